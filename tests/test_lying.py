"""[1.2] and [0.2]: each alarm that waits lies where its tick belongs, at each time."""

import unittest

from plain import GREAT, SHAPES, assert_lies_well, outcome
from tickbook.books import Book, go_on, move, pass_ticks, rest, set_alarm, take_back
from tickbook.errors import NotThere
from tickbook.racks import Rack, Row, position


class WhereAlarmsLie(unittest.TestCase):
    def test_as_written(self):
        book = Book(10, 3)
        for due in (7, 57, 58, 999, 1000, GREAT):
            set_alarm(book, "a", due, None)
        self.assertEqual(
            [book.where(number) for number in range(6)], [(0, 7), (1, 5), (1, 5), (2, 9), None, None]
        )
        self.assertEqual(book.lying(0, 7), [0])
        self.assertEqual(book.lying(1, 5), [1, 2])
        self.assertEqual(book.lying(2, 9), [3])
        self.assertEqual(book.lying(0, 0), [])
        assert_lies_well(self, book, 10, 3)

    def test_numbers_of_a_slot_rise_whatever_the_order_they_came(self):
        book = Book(10, 3)
        for due in (500, 55, 501, 54, 53):
            set_alarm(book, "a", due, None)
        move(book, 2, 51)
        move(book, 0, 59)
        self.assertEqual(book.lying(1, 5), [0, 1, 2, 3, 4])

    def test_an_alarm_that_comes_near_is_handed_on(self):
        book = Book(10, 3)
        set_alarm(book, "a", 12345, None)
        rows = (
            (0, None), (9999, None), (11999, None), (12000, (2, 3)), (12001, (2, 3)), (12299, (2, 3)),
            (12300, (1, 4)), (12339, (1, 4)), (12340, (0, 5)), (12344, (0, 5)),
        )
        for tick, place in rows:
            self.assertEqual(pass_ticks(book, tick - book.time()), [])
            with self.subTest(tick=tick):
                self.assertEqual(book.where(0), place)
                if place is not None:
                    self.assertEqual(book.lying(place[0], place[1]), [0])
                assert_lies_well(self, book, 10, 3)
        self.assertEqual(pass_ticks(book, 1), [(12345, 0, "a")])
        assert_lies_well(self, book, 10, 3)

    def test_an_alarm_skips_levels_when_time_goes_on_by_much(self):
        book = Book(10, 3)
        set_alarm(book, "a", 12345, None)
        pass_ticks(book, 12341)
        self.assertEqual(book.where(0), (0, 5))
        self.assertEqual(book.lying(0, 5), [0])
        assert_lies_well(self, book, 10, 3)

    def test_near_but_behind_a_stretch(self):
        book = Book(10, 3)
        pass_ticks(book, 999)
        set_alarm(book, "a", 1000, None)
        self.assertIsNone(book.where(0))
        pass_ticks(book, 1)
        pass_ticks(book, 99)
        set_alarm(book, "b", 1100, None)
        self.assertEqual(book.where(1), (2, 1))
        self.assertEqual(book.lying(2, 1), [1])

    def test_what_is_no_slot_and_no_level(self):
        for slots, levels in SHAPES:
            book = Book(slots, levels)
            for due in list(range(1, 140)) + [slots ** levels * time for time in range(1, slots + 3)]:
                set_alarm(book, "a", due, None)
            for level in range(levels):
                for slot in (-1, -2, -slots, slots, slots + 1, GREAT, -GREAT):
                    self.assertEqual(book.lying(level, slot), [], (slots, levels, level, slot))
            for level in (-1, -2, -levels, -levels - 1, levels, levels + 1, GREAT, -GREAT):
                for slot in range(-1, slots + 1):
                    self.assertEqual(book.lying(level, slot), [], (slots, levels, level, slot))

    def test_a_slot_behind_the_time_is_empty(self):
        book = Book(10, 3)
        for due in range(1, 10):
            set_alarm(book, "a", due, None)
        pass_ticks(book, 4)
        self.assertEqual([book.lying(0, slot) for slot in range(10)], [[], [], [], [], [], [4], [5], [6], [7], [8]])

    def test_what_does_not_wait_lies_nowhere(self):
        book = Book(10, 3)
        for due in (5, 6, 7, 57, 58):
            set_alarm(book, "a", due, None)
        pass_ticks(book, 5)
        take_back(book, 1)
        rest(book, 2)
        rest(book, 3)
        for number in (0, 1, 2, 3, 5, -1):
            self.assertIs(outcome(book.where, number), NotThere, number)
        self.assertEqual(book.where(4), (1, 5))
        self.assertEqual(book.lying(1, 5), [4])
        assert_lies_well(self, book, 10, 3)


class AfterEachDeed(unittest.TestCase):
    def dues(self, slots, levels):
        """Ticks at, ahead of and behind the edges of each level's slots and of what is beyond them."""
        found = [1, 2, 3]
        for level in range(levels + 2):
            for multiple in (1, 2, slots - 1):
                edge = slots ** level * multiple
                found.extend([edge - 1, edge, edge + 1])
        return sorted({due for due in found if due > 0})

    def test_set_moved_rest_go_on_and_taken_back(self):
        for slots, levels in SHAPES:
            book = Book(slots, levels)
            dues = self.dues(slots, levels)
            with self.subTest(slots=slots, levels=levels):
                for due in dues:
                    set_alarm(book, "a", due, None)
                assert_lies_well(self, book, slots, levels)
                for number, due in enumerate(reversed(dues)):
                    move(book, number, due)
                assert_lies_well(self, book, slots, levels)
                for number in range(0, len(dues), 2):
                    rest(book, number)
                assert_lies_well(self, book, slots, levels)
                pass_ticks(book, slots + 1)
                assert_lies_well(self, book, slots, levels)
                for number in book.resting():
                    go_on(book, number)
                assert_lies_well(self, book, slots, levels)
                for number in book.waiting()[::3]:
                    take_back(book, number)
                assert_lies_well(self, book, slots, levels)

    def test_time_over_the_spans_of_each_level(self):
        for slots, levels in SHAPES:
            book = Book(slots, levels)
            dues = self.dues(slots, levels)
            for due in dues:
                set_alarm(book, "a", due, None)
            set_alarm(book, "steps", slots, slots ** levels + 1)
            with self.subTest(slots=slots, levels=levels):
                for due in dues:
                    pass_ticks(book, due - book.time())
                    assert_lies_well(self, book, slots, levels)

    def test_tick_by_tick(self):
        for slots, levels in ((2, 1), (2, 3), (3, 2), (5, 1)):
            book = Book(slots, levels)
            for due in range(1, 60):
                set_alarm(book, "a", due, None)
            set_alarm(book, "steps", 2, 7)
            for tick in range(1, 70):
                pass_ticks(book, 1)
                self.assertEqual(book.time(), tick)
                assert_lies_well(self, book, slots, levels)


class Rows(unittest.TestCase):
    """What the book's lying rests on."""

    def test_position(self):
        self.assertEqual(position([], 5), 0)
        rising = [2, 4, 6, 8, 10]
        for value, place in ((1, 0), (2, 0), (3, 1), (4, 1), (5, 2), (6, 2), (9, 4), (10, 4), (11, 5)):
            self.assertEqual(position(rising, value), place)
        self.assertEqual(rising, [2, 4, 6, 8, 10])

    def test_an_empty_slot_is_not_kept(self):
        row = Row(10)
        for number, tick in enumerate((35, 12, 31, 19)):
            row.put(number, tick)
        self.assertEqual((row.rising, row.numbers_in(3), row.numbers_in(1), row.numbers_in(2)), ([1, 3], [0, 2], [1, 3], []))
        row.take(0, 35)
        self.assertEqual(row.rising, [1, 3])
        row.take(2, 31)
        self.assertEqual((row.rising, row.numbers_in(3)), ([1], []))
        self.assertEqual(row.take_slot(1), [1, 3])
        self.assertEqual(row.rising, [])

    def test_the_first_slot_of_all_rows(self):
        rack = Rack(10, 2)
        self.assertIsNone(rack.first_start())
        self.assertEqual(rack.first_numbers(), [])
        for number, tick in enumerate((345, 57, 52, 3)):
            rack.put(0, number, tick)
        self.assertEqual((rack.first_start(), rack.first_numbers()), (3, [3]))
        self.assertEqual(rack.take_first(), [3])
        self.assertEqual((rack.first_start(), rack.take_first()), (50, [1, 2]))
        self.assertEqual((rack.first_start(), rack.take_first()), (300, [0]))
        self.assertIsNone(rack.first_start())


if __name__ == "__main__":
    unittest.main()
