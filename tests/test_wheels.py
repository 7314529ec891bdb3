"""[1.1] and [1.2], and what [0.1], [0.2] and [0.3] ask of the wheels."""

import unittest

from tickbook.errors import BadWheels
from tickbook.wheels import Wheels, check_wheels, slot_spans

GREAT = 999999999999999


def place_by_search(slots, levels, now, due):
    """[1.2] word by word: walk every slot of the stretch that has the tick that it is."""
    slot_span = 1
    for level in range(levels):
        all_slots = sum([slot_span] * slots)
        start = 0
        while start + all_slots <= now:
            start += all_slots
        for slot in range(slots):
            first = start + slot * slot_span
            if first <= due <= first + slot_span - 1:
                return (level, slot)
        slot_span = all_slots
    return None


class GoodAndBadWheels(unittest.TestCase):
    """[1.1] A book has 2 to 64 slots and 1 to 6 levels; else BadWheels."""

    def assert_refused(self, slots, levels):
        with self.subTest(slots=slots, levels=levels):
            with self.assertRaises(BadWheels):
                Wheels(slots, levels)
            with self.assertRaises(BadWheels):
                check_wheels(slots, levels)

    def test_the_edges_are_good(self):
        for slots in (2, 64):
            for levels in (1, 6):
                with self.subTest(slots=slots, levels=levels):
                    self.assertIsNone(check_wheels(slots, levels))
                    wheels = Wheels(slots, levels)
                    self.assertEqual(wheels.slots, slots)
                    self.assertEqual(len(wheels.spans), levels)

    def test_all_between_the_edges_are_good(self):
        for slots in range(2, 65):
            for levels in range(1, 7):
                with self.subTest(slots=slots, levels=levels):
                    self.assertEqual(len(Wheels(slots, levels).spans), levels)

    def test_just_outside_the_edges(self):
        for levels in (1, 3, 6):
            self.assert_refused(1, levels)
            self.assert_refused(65, levels)
        for slots in (2, 10, 64):
            self.assert_refused(slots, 0)
            self.assert_refused(slots, 7)

    def test_zero_and_below(self):
        for bad in (0, -1, -2, -6, -64, -GREAT):
            self.assert_refused(bad, 3)
            self.assert_refused(bad, 1)
            self.assert_refused(bad, bad)
        for bad in (0, -1, -2, -6, -GREAT):
            self.assert_refused(10, bad)
            self.assert_refused(2, bad)

    def test_great_numbers(self):
        for bad in (66, 100, 128, 10**9, 2**40, 10**14, GREAT):
            self.assert_refused(bad, 3)
            self.assert_refused(10, bad)
            self.assert_refused(bad, bad)
            self.assert_refused(bad, -bad)

    def test_each_number_has_its_own_bounds(self):
        self.assert_refused(6, 64)
        self.assert_refused(1, 2)
        self.assertEqual(Wheels(7, 6).slots, 7)


class Spans(unittest.TestCase):
    """[1.1] How many ticks a slot of each level spans."""

    SPANS = (
        (2, 1, (1,)),
        (2, 2, (1, 2)),
        (2, 6, (1, 2, 4, 8, 16, 32)),
        (3, 4, (1, 3, 9, 27)),
        (10, 3, (1, 10, 100)),
        (10, 6, (1, 10, 100, 1000, 10000, 100000)),
        (60, 3, (1, 60, 3600)),
        (64, 1, (1,)),
        (64, 6, (1, 64, 4096, 262144, 16777216, 1073741824)),
    )

    def test_written_spans(self):
        for slots, levels, spans in self.SPANS:
            with self.subTest(slots=slots, levels=levels):
                self.assertEqual(Wheels(slots, levels).spans, spans)
                self.assertEqual(slot_spans(slots, levels), list(spans))

    def test_a_slot_spans_all_slots_of_the_level_below(self):
        for slots in range(2, 65):
            spans = Wheels(slots, 6).spans
            self.assertEqual(spans[0], 1)
            for level in range(1, 6):
                with self.subTest(slots=slots, level=level):
                    self.assertEqual(spans[level], sum([spans[level - 1]] * slots))


class Places(unittest.TestCase):
    """[1.2] and [0.2]: each alarm lies where its tick belongs."""

    def assert_places(self, wheels, rows):
        for now, due, place in rows:
            with self.subTest(slots=wheels.slots, now=now, due=due):
                self.assertEqual(wheels.place(now, due), place)

    def test_the_same_stretch_at_each_level(self):
        self.assert_places(Wheels(10, 4), (
            (0, 7, (0, 7)),
            (123, 127, (0, 7)),
            (123, 157, (1, 5)),
            (123, 957, (2, 9)),
            (123, 4000, (3, 4)),
            (5123, 5126, (0, 6)),
            (5123, 5186, (1, 8)),
            (5123, 5686, (2, 6)),
            (5123, 8686, (3, 8)),
        ))

    def test_the_first_and_the_last_tick_of_a_stretch(self):
        self.assert_places(Wheels(10, 3), (
            (0, 1, (0, 1)),
            (0, 9, (0, 9)),
            (0, 10, (1, 1)),
            (0, 99, (1, 9)),
            (0, 100, (2, 1)),
            (0, 999, (2, 9)),
            (0, 1000, None),
            (40, 41, (0, 1)),
            (40, 49, (0, 9)),
            (48, 49, (0, 9)),
            (400, 401, (0, 1)),
            (400, 499, (1, 9)),
            (4000, 4999, (2, 9)),
            (4000, 5000, None),
        ))

    def test_just_behind_a_stretch_lies_higher_although_near(self):
        self.assert_places(Wheels(10, 3), (
            (9, 10, (1, 1)),
            (49, 50, (1, 5)),
            (99, 100, (2, 1)),
            (95, 104, (2, 1)),
            (899, 900, (2, 9)),
            (999, 1000, None),
            (995, 1004, None),
        ))
        self.assert_places(Wheels(2, 6), (
            (1, 2, (1, 1)),
            (3, 4, (2, 1)),
            (7, 8, (3, 1)),
            (15, 16, (4, 1)),
            (31, 32, (5, 1)),
            (63, 64, None),
            (64, 65, (0, 1)),
        ))

    def test_an_alarm_comes_to_lower_levels_as_time_goes_on(self):
        self.assert_places(Wheels(10, 3), (
            (0, 1234, None),
            (999, 1234, None),
            (1000, 1234, (2, 2)),
            (1199, 1234, (2, 2)),
            (1200, 1234, (1, 3)),
            (1229, 1234, (1, 3)),
            (1230, 1234, (0, 4)),
            (1233, 1234, (0, 4)),
        ))

    def test_no_level(self):
        self.assert_places(Wheels(4, 2), (
            (0, 15, (1, 3)),
            (0, 16, None),
            (0, 17, None),
            (15, 16, None),
            (16, 31, (1, 3)),
            (16, 32, None),
            (5, GREAT, None),
        ))

    def test_multiples_of_a_span(self):
        self.assert_places(Wheels(60, 3), (
            (0, 60, (1, 1)),
            (0, 120, (1, 2)),
            (0, 3540, (1, 59)),
            (0, 3600, (2, 1)),
            (0, 7200, (2, 2)),
            (0, 212400, (2, 59)),
            (0, 216000, None),
            (3600, 3660, (1, 1)),
            (3601, 7200, (2, 2)),
            (3601, 10800, (2, 3)),
        ))

    def test_slot_0_of_a_level_above_0_is_for_no_later_tick(self):
        for wheels in (Wheels(2, 4), Wheels(3, 3)):
            for now in range(60):
                for due in range(now + 1, 60):
                    place = wheels.place(now, due)
                    if place is not None:
                        with self.subTest(slots=wheels.slots, now=now, due=due):
                            self.assertGreater(place[1], 0)

    def test_one_level_alone(self):
        self.assert_places(Wheels(2, 1), (
            (0, 1, (0, 1)),
            (0, 2, None),
            (1, 2, None),
            (2, 3, (0, 1)),
        ))
        self.assert_places(Wheels(64, 1), (
            (0, 63, (0, 63)),
            (0, 64, None),
            (63, 64, None),
            (64, 100, (0, 36)),
            (64, 127, (0, 63)),
            (64, 128, None),
        ))

    def test_great_ticks(self):
        self.assert_places(Wheels(10, 6), (
            (GREAT - 1, GREAT, (0, 9)),
            (GREAT - 9, GREAT, (0, 9)),
            (GREAT - 10, GREAT, (1, 9)),
            (GREAT - 99999, GREAT, (4, 9)),
            (GREAT - 100000, GREAT, (5, 9)),
            (GREAT - 999999, GREAT, (5, 9)),
            (GREAT - 1000000, GREAT, None),
            (123456789012345, 123456789012346, (0, 6)),
            (123456789012345, 123456789312346, (5, 3)),
            (123456789012345, 123456790000000, None),
            (0, GREAT, None),
        ))
        whole = 68719476736
        start = 14551 * whole
        self.assertEqual(len(str(start)), 15)
        self.assert_places(Wheels(64, 6), (
            (start, start + 63, (0, 63)),
            (start, start + 64, (1, 1)),
            (start, start + 5 * 4096 + 7, (2, 5)),
            (start, start + 62 * 262144 + 7, (3, 62)),
            (start, start + 9 * 16777216, (4, 9)),
            (start, start + whole - 1, (5, 63)),
            (start, start + whole, None),
            (start - 1, start, None),
        ))
        self.assert_places(Wheels(2, 6), ((GREAT - 1, GREAT, (0, 1)), (GREAT, GREAT + 1, None)))

    def test_as_a_search_through_every_slot_finds_it(self):
        for slots, levels in ((2, 1), (2, 3), (2, 6), (3, 1), (3, 3), (5, 2), (64, 1), (64, 2)):
            wheels = Wheels(slots, levels)
            for now in range(70):
                for due in range(now + 1, 140):
                    self.assertEqual(
                        wheels.place(now, due),
                        place_by_search(slots, levels, now, due),
                        (slots, levels, now, due),
                    )

    def test_any_whole_number_may_be_a_tick(self):
        # [0.3]: stretches begin at multiples of the span below 0 too.
        self.assert_places(Wheels(10, 2), (
            (0, 0, (0, 0)),
            (25, 21, (0, 1)),
            (25, 3, (1, 0)),
            (0, -1, None),
            (-10, -1, (0, 9)),
            (-100, -1, (1, 9)),
            (-101, -1, None),
            (-GREAT, GREAT, None),
        ))


class NothingIsKept(unittest.TestCase):
    """[0.1] What is told is new, and asking changes nothing."""

    def test_spans_that_are_told_are_new_ones(self):
        told = slot_spans(10, 3)
        told.append(5)
        told[0] = 7
        self.assertEqual(slot_spans(10, 3), [1, 10, 100])

    def test_the_spans_of_wheels_can_not_be_changed(self):
        self.assertIsInstance(Wheels(10, 3).spans, tuple)

    def test_a_place_is_a_pair_of_whole_numbers(self):
        place = Wheels(10, 3).place(0, 57)
        self.assertIs(type(place), tuple)
        self.assertEqual([type(part) for part in place], [int, int])

    def test_asking_changes_nothing(self):
        wheels = Wheels(10, 3)
        for time in range(3):
            self.assertEqual(wheels.place(49, 50), (1, 5))
            self.assertIsNone(wheels.place(999, 1000))
        self.assertEqual((wheels.slots, wheels.spans), (10, (1, 10, 100)))

    def test_wheels_do_not_touch_one_another(self):
        small = Wheels(2, 1)
        great = Wheels(64, 6)
        self.assertEqual(small.place(0, 1), (0, 1))
        self.assertIsNone(small.place(0, 2))
        self.assertEqual(great.place(0, 64), (1, 1))


if __name__ == "__main__":
    unittest.main()
