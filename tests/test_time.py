"""[2.3]: time goes on; [0.2] and [0.3] of it, and [3.1]: soonest and ahead."""

import copy
import random
import unittest

from plain import GREAT, SHAPES, PlainBook, assert_lies_well, outcome, told, within_lines
from tickbook.ahead import ahead
from tickbook.books import Book, go_on, move, pass_ticks, rest, set_alarm, take_back
from tickbook.errors import Past


class Ringing(unittest.TestCase):
    """[2.3]"""

    def test_an_alarm_rings_at_just_its_tick(self):
        for slots, levels in SHAPES:
            for due in (1, 2, 3, 9, 10, 63, 64, 65, 100, 4096):
                book = Book(slots, levels)
                set_alarm(book, "a", due, None)
                with self.subTest(slots=slots, levels=levels, due=due):
                    self.assertEqual(pass_ticks(book, due - 1), [])
                    self.assertEqual(book.waiting(), [0])
                    self.assertEqual(pass_ticks(book, 1), [(due, 0, "a")])
                    self.assertEqual(book.waiting(), [])
                    self.assertEqual(pass_ticks(book, 9999), [])

    def test_lower_numbers_first_at_each_tick(self):
        for slots, levels in SHAPES:
            book = Book(slots, levels)
            for name in "abcdefghijkl":
                set_alarm(book, name, 70, None)
            self.assertEqual(
                pass_ticks(book, 70), [(70, number, name) for number, name in enumerate("abcdefghijkl")], (slots, levels)
            )

    def test_lower_numbers_first_however_they_came_to_that_tick(self):
        for slots, levels in SHAPES:
            book = Book(slots, levels)
            set_alarm(book, "moved late", 5000, None)
            set_alarm(book, "rests", 80, None)
            set_alarm(book, "steps by 5", 5, 5)
            set_alarm(book, "handed on", 90, None)
            set_alarm(book, "steps by 45", 45, 45)
            set_alarm(book, "moved at once", 7, None)
            rest(book, 1)
            pass_ticks(book, 4)
            move(book, 5, 90)
            pass_ticks(book, 6)
            go_on(book, 1)
            pass_ticks(book, 79)
            self.assertEqual(set_alarm(book, "set last", 90, None), 6)
            move(book, 0, 90)
            names = ["moved late", "rests", "steps by 5", "handed on", "steps by 45", "moved at once", "set last"]
            expected = [(90, number, name) for number, name in enumerate(names)]
            with self.subTest(slots=slots, levels=levels):
                self.assertEqual(ahead(book, 1), expected)
                self.assertEqual(pass_ticks(book, 1), expected)

    def test_ticks_ahead_of_numbers(self):
        book = Book(10, 3)
        for due in (30, 7, 30, 8, 1200, 7):
            set_alarm(book, "a", due, None)
        self.assertEqual(
            [triple[:2] for triple in pass_ticks(book, 5000)], [(7, 1), (7, 5), (8, 3), (30, 0), (30, 2), (1200, 4)]
        )

    def test_steps_that_come_again_within_one_stretch(self):
        for slots, levels in SHAPES:
            book = Book(slots, levels)
            set_alarm(book, "three", 3, 3)
            set_alarm(book, "two", 1, 2)
            set_alarm(book, "once", 7, None)
            with self.subTest(slots=slots, levels=levels):
                self.assertEqual(pass_ticks(book, 9), [
                    (1, 1, "two"), (3, 0, "three"), (3, 1, "two"), (5, 1, "two"), (6, 0, "three"),
                    (7, 1, "two"), (7, 2, "once"), (9, 0, "three"), (9, 1, "two"),
                ])
                self.assertEqual((book.waiting(), book.due(0), book.due(1)), ([0, 1], 12, 11))

    def test_steps_of_a_whole_wheel(self):
        for slots, levels in SHAPES:
            for level in range(levels + 1):
                for step in (slots ** level - 1, slots ** level, slots ** level + 1):
                    if step > 0:
                        book = Book(slots, levels)
                        set_alarm(book, "a", step, step)
                        with self.subTest(slots=slots, levels=levels, step=step):
                            self.assertEqual(
                                pass_ticks(book, step * 6 - 1), [(step * time, 0, "a") for time in range(1, 6)]
                            )
                            self.assertEqual(book.due(0), step * 6)

    def test_a_stretch_of_0(self):
        book = Book(10, 3)
        set_alarm(book, "a", 1, 1)
        for passed in (0, 9, 90):
            pass_ticks(book, passed)
            before = told(book, 10, 3)
            self.assertEqual(pass_ticks(book, 0), [])
            self.assertEqual(told(book, 10, 3), before)

    def test_a_stretch_below_0(self):
        book = Book(10, 3)
        for passed in (0, 25):
            pass_ticks(book, passed)
            for ticks in (-1, -2, -25, -26, -GREAT):
                self.assertIs(outcome(pass_ticks, book, ticks), Past, (passed, ticks))
            self.assertEqual(book.time(), passed)

    def test_time_is_told_by_the_ring_not_by_the_end(self):
        book = Book(10, 3)
        set_alarm(book, "a", 4, None)
        self.assertEqual(pass_ticks(book, 1000), [(4, 0, "a")])
        self.assertEqual(book.time(), 1000)

    def test_rung_alarms_ring_no_more_and_rests_do_not_ring(self):
        book = Book(2, 2)
        for due in range(1, 20):
            set_alarm(book, "a", due, None)
        for number in range(0, 19, 2):
            rest(book, number)
        self.assertEqual([triple[0] for triple in pass_ticks(book, 50)], list(range(2, 20, 2)))
        self.assertEqual(pass_ticks(book, 50), [])
        self.assertEqual(book.resting(), list(range(0, 19, 2)))


class EdgesOfSpans(unittest.TestCase):
    """[2.3] and [0.2]: stretches that end at, just ahead of and just behind a multiple of a span."""

    def assert_stretches(self, slots, levels, stretches, alarms):
        book = Book(slots, levels)
        plain = PlainBook()
        for due, step in alarms:
            self.assertEqual(outcome(set_alarm, book, "a", due, step), outcome(plain.set_alarm, "a", due, step))
        for ticks in stretches:
            self.assertEqual(ahead(book, ticks), copy.deepcopy(plain).pass_ticks(ticks))
            self.assertEqual(pass_ticks(book, ticks), plain.pass_ticks(ticks), (slots, levels, stretches))
            self.assertEqual((book.time(), book.soonest()), (plain.now, plain.soonest()))
            assert_lies_well(self, book, slots, levels)

    def test_ends_round_the_multiples_of_each_span(self):
        for slots, levels in SHAPES:
            for level in range(levels + 1):
                span = slots ** level
                for multiple in (1, 2, slots, slots + 1):
                    edge = span * multiple
                    alarms = [(due, None) for due in range(max(1, edge - 2), edge + 4)]
                    alarms.extend([(edge, span), (edge + 1, span * slots), (edge * 2 + 1, None)])
                    for end in (edge - 1, edge, edge + 1):
                        with self.subTest(slots=slots, levels=levels, end=end):
                            self.assert_stretches(slots, levels, (end, 1, 1, span), alarms)

    def test_starts_round_the_multiples_of_each_span(self):
        for slots, levels in ((2, 3), (3, 2), (10, 3)):
            for level in range(levels + 1):
                span = slots ** level
                for start in (span - 1, span, span + 1):
                    for ticks in (span - 1, span, span + 1, span * slots):
                        alarms = [(start + ahead_of_it, None) for ahead_of_it in range(1, 4)]
                        alarms.extend([(start + ticks, None), (start + ticks + 1, 1 + span), (start + 2 * ticks + 1, 7)])
                        with self.subTest(slots=slots, levels=levels, start=start, ticks=ticks):
                            self.assert_stretches(slots, levels, (start, ticks, ticks), alarms)


class LongStretches(unittest.TestCase):
    """[0.3]: a stretch of 15 figures is answered as soon as a short one."""

    LINES = 2000000

    def test_one_alarm_at_the_end_of_15_figures(self):
        for slots, levels in SHAPES:
            book = Book(slots, levels)
            set_alarm(book, "a", GREAT, None)
            with self.subTest(slots=slots, levels=levels):
                self.assertEqual(within_lines(5000, ahead, book, GREAT), [(GREAT, 0, "a")])
                self.assertEqual(within_lines(5000, pass_ticks, book, GREAT - 1), [])
                self.assertEqual(within_lines(5000, book.soonest), GREAT)
                self.assertEqual(within_lines(5000, pass_ticks, book, GREAT), [(GREAT, 0, "a")])
                self.assertEqual(book.time(), 2 * GREAT - 1)

    def test_no_alarm_and_alarms_that_rest(self):
        for slots, levels in SHAPES:
            book = Book(slots, levels)
            set_alarm(book, "a", 5, 1)
            rest(book, 0)
            for time in range(1, 4):
                self.assertEqual(within_lines(5000, pass_ticks, book, GREAT), [])
                self.assertEqual(book.time(), time * GREAT)

    def test_steps_a_thousand_times_in_15_figures(self):
        step = GREAT // 1000
        expected = [(step * time, 0, "a") for time in range(1, 1001)]
        for slots, levels in SHAPES:
            book = Book(slots, levels)
            set_alarm(book, "a", step, step)
            with self.subTest(slots=slots, levels=levels):
                self.assertEqual(within_lines(self.LINES, ahead, book, GREAT), expected)
                self.assertEqual(within_lines(self.LINES, pass_ticks, book, GREAT), expected)
                self.assertEqual(book.due(0), step * 1001)
                assert_lies_well(self, book, slots, levels)

    def test_a_thousand_alarms_in_15_figures(self):
        draw = random.Random(15)
        dues = [draw.randrange(1, 10 ** draw.randrange(1, 16)) for alarm in range(1000)]
        for slots, levels in SHAPES:
            book = Book(slots, levels)
            plain = PlainBook()
            for due in dues:
                set_alarm(book, "a", due, None)
                plain.set_alarm("a", due, None)
            with self.subTest(slots=slots, levels=levels):
                expected = plain.pass_ticks(GREAT)
                self.assertEqual(within_lines(self.LINES, ahead, book, GREAT), expected)
                self.assertEqual(within_lines(self.LINES, pass_ticks, book, GREAT), expected)
                self.assertEqual(book.waiting(), [])

    def test_many_that_wait_far_off_do_not_hold_up_the_near_ones(self):
        for slots, levels in ((2, 1), (64, 6)):
            book = Book(slots, levels)
            for number in range(3000):
                set_alarm(book, "far", GREAT - 7 * number, None)
            set_alarm(book, "near", 9, 10 ** 9)
            with self.subTest(slots=slots, levels=levels):
                rung = within_lines(self.LINES, pass_ticks, book, 10 ** 12)
                self.assertEqual(rung, [(9 + time * 10 ** 9, 3000, "near") for time in range(1000)])

    def test_a_thousand_at_one_tick(self):
        book = Book(64, 6)
        for number in range(1000):
            set_alarm(book, "a", GREAT, None)
        expected = [(GREAT, number, "a") for number in range(1000)]
        self.assertEqual(within_lines(self.LINES, pass_ticks, book, GREAT), expected)


class Soonest(unittest.TestCase):
    """[3.1]"""

    def test_none_one_and_several(self):
        for slots, levels in SHAPES:
            book = Book(slots, levels)
            with self.subTest(slots=slots, levels=levels):
                self.assertIsNone(book.soonest())
                for due in (GREAT, 50000, 4097, 70, 69, 71, 12, 3, 5, 3, 1):
                    set_alarm(book, "a", due, None)
                    self.assertEqual(book.soonest(), min(book.due(number) for number in book.waiting()))
                for due in (1, 3, 5, 12, 69, 70, 71, 4097, 50000, GREAT):
                    self.assertEqual(book.soonest(), due)
                    pass_ticks(book, due - 1 - book.time())
                    self.assertEqual(book.soonest(), due)
                    pass_ticks(book, 1)
                self.assertIsNone(book.soonest())

    def test_several_in_one_slot(self):
        book = Book(10, 3)
        for due in (358, 351, 359, 357):
            set_alarm(book, "a", due, None)
        self.assertEqual(book.lying(2, 3), [0, 1, 2, 3])
        self.assertEqual(book.soonest(), 351)
        take_back(book, 1)
        self.assertEqual(book.soonest(), 357)

    def test_beside_alarms_that_rest(self):
        book = Book(10, 3)
        set_alarm(book, "a", 5, None)
        set_alarm(book, "b", 9, None)
        rest(book, 0)
        self.assertEqual(book.soonest(), 9)
        rest(book, 1)
        self.assertIsNone(book.soonest())
        pass_ticks(book, 100)
        go_on(book, 1)
        self.assertEqual(book.soonest(), 109)
        go_on(book, 0)
        self.assertEqual(book.soonest(), 105)

    def test_steps_and_moves(self):
        book = Book(10, 3)
        set_alarm(book, "a", 5, 100)
        self.assertEqual(book.soonest(), 5)
        pass_ticks(book, 5)
        self.assertEqual(book.soonest(), 105)
        move(book, 0, 2000)
        self.assertEqual(book.soonest(), 2000)
        move(book, 0, 6)
        self.assertEqual(book.soonest(), 6)
        take_back(book, 0)
        self.assertIsNone(book.soonest())


class Ahead(unittest.TestCase):
    """[3.1]"""

    def book(self, slots, levels):
        book = Book(slots, levels)
        for number, (due, step) in enumerate(((40, None), (4, 3), (9, 9), (70, 1), (9, None), (5000, None), (12, 2))):
            set_alarm(book, f"n{number}", due, step)
        rest(book, 6)
        take_back(book, 3)
        return book

    def test_it_tells_just_what_time_will_bring(self):
        for slots, levels in SHAPES:
            for passed in (0, 3, 9, 41):
                for ticks in (0, 1, 2, 5, 6, 9, 63, 64, 100):
                    book = self.book(slots, levels)
                    pass_ticks(book, passed)
                    before = told(book, slots, levels)
                    with self.subTest(slots=slots, levels=levels, passed=passed, ticks=ticks):
                        foretold = ahead(book, ticks)
                        self.assertEqual(told(book, slots, levels), before)
                        self.assertEqual(ahead(book, ticks), foretold)
                        self.assertEqual(pass_ticks(book, ticks), foretold)

    def test_as_written(self):
        book = self.book(10, 3)
        self.assertEqual(ahead(book, 3), [])
        self.assertEqual(ahead(book, 10), [(4, 1, "n1"), (7, 1, "n1"), (9, 2, "n2"), (9, 4, "n4"), (10, 1, "n1")])
        self.assertEqual((book.time(), book.waiting(), book.resting()), (0, [0, 1, 2, 4, 5], [6]))

    def test_past_of_a_stretch_below_0(self):
        book = self.book(10, 3)
        before = told(book, 10, 3)
        for ticks in (-1, -2, -GREAT):
            self.assertIs(outcome(ahead, book, ticks), Past, ticks)
        self.assertIs(outcome(ahead, Book(2, 1), -1), Past)
        self.assertEqual(told(book, 10, 3), before)

    def test_rests_are_not_told(self):
        book = Book(10, 3)
        set_alarm(book, "a", 5, 5)
        rest(book, 0)
        self.assertEqual(ahead(book, GREAT), [])


if __name__ == "__main__":
    unittest.main()
