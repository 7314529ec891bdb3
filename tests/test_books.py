"""[1.1] of a book, [2.1] and [2.2]: alarms that are set, taken back, moved, rest and go on."""

import inspect
import unittest

from plain import GREAT, SHAPES, all_slots, outcome
from tickbook import books
from tickbook.ahead import ahead
from tickbook.books import Book, go_on, move, pass_ticks, rest, set_alarm, take_back
from tickbook.errors import BadWheels, NotThere, Past


class Interface(unittest.TestCase):
    """The rows of tickbook/books.py and tickbook/ahead.py."""

    def assert_parameters(self, called, names):
        self.assertEqual(list(inspect.signature(called).parameters), names)

    def test_names_and_arguments(self):
        self.assert_parameters(Book, ["slots", "levels"])
        book = Book(10, 3)
        for name in ("time", "waiting", "resting", "soonest"):
            self.assert_parameters(getattr(book, name), [])
        for name in ("due", "left", "where"):
            self.assert_parameters(getattr(book, name), ["number"])
        self.assert_parameters(book.lying, ["level", "slot"])
        self.assert_parameters(set_alarm, ["book", "name", "due", "step"])
        for name in ("take_back", "rest", "go_on"):
            self.assert_parameters(getattr(books, name), ["book", "number"])
        self.assert_parameters(move, ["book", "number", "due"])
        self.assert_parameters(pass_ticks, ["book", "ticks"])
        self.assert_parameters(ahead, ["book", "ticks"])

    def test_kinds(self):
        book = Book(10, 3)
        self.assertIs(type(book.time()), int)
        self.assertIs(type(set_alarm(book, "a", 5, 2)), int)
        set_alarm(book, "b", 2000, None)
        self.assertIs(type(book.where(0)), tuple)
        self.assertIsNone(book.where(1))
        for told in (book.waiting(), book.resting(), book.lying(0, 5), book.lying(9, 9), ahead(book, 9)):
            self.assertIs(type(told), list)
        rung = pass_ticks(book, 9)
        self.assertIs(type(rung), list)
        self.assertEqual([type(triple) for triple in rung], [tuple, tuple, tuple])
        self.assertIs(type(pass_ticks(book, 0)), list)
        self.assertIsNone(move(book, 0, 70))
        self.assertIsNone(rest(book, 0))
        self.assertIsNone(go_on(book, 0))
        self.assertEqual(take_back(book, 0), "a")


class NewBooks(unittest.TestCase):
    """[1.1]"""

    def test_it_is_tick_0_and_there_are_no_alarms(self):
        for slots, levels in SHAPES:
            with self.subTest(slots=slots, levels=levels):
                book = Book(slots, levels)
                self.assertEqual(book.time(), 0)
                self.assertEqual(book.waiting(), [])
                self.assertEqual(book.resting(), [])
                self.assertIsNone(book.soonest())
                self.assertEqual(ahead(book, GREAT), [])
                for level, slot in all_slots(slots, levels):
                    self.assertEqual(book.lying(level, slot), [])
                for number in (-1, 0, 1):
                    for asked in (book.due, book.left, book.where):
                        self.assertIs(outcome(asked, number), NotThere)

    def test_the_edges_are_good(self):
        for slots in (2, 3, 63, 64):
            for levels in (1, 2, 5, 6):
                self.assertEqual(Book(slots, levels).time(), 0)

    def test_outside_the_edges(self):
        for bad in (1, 0, -1, -GREAT, 65, 66, GREAT):
            for levels in (1, 6):
                self.assertIs(outcome(Book, bad, levels), BadWheels, (bad, levels))
        for bad in (0, -1, -GREAT, 7, 8, GREAT):
            for slots in (2, 64):
                self.assertIs(outcome(Book, slots, bad), BadWheels, (slots, bad))
        self.assertIs(outcome(Book, 1, 0), BadWheels)
        self.assertIs(outcome(Book, 65, 7), BadWheels)

    def test_time_of_a_book_without_alarms_goes_on(self):
        book = Book(2, 1)
        self.assertEqual(pass_ticks(book, 7), [])
        self.assertEqual(book.time(), 7)
        self.assertEqual(pass_ticks(book, GREAT), [])
        self.assertEqual(book.time(), GREAT + 7)


class Setting(unittest.TestCase):
    """[2.1]"""

    def test_it_waits_for_its_tick(self):
        book = Book(10, 3)
        self.assertEqual(set_alarm(book, "tea", 57, None), 0)
        self.assertEqual((book.waiting(), book.resting(), book.due(0)), ([0], [], 57))
        self.assertIs(outcome(book.left, 0), NotThere)

    def test_a_tick_that_is_not_greater_is_past(self):
        for passed in (0, 1, 9, 10, 123, GREAT):
            book = Book(10, 3)
            pass_ticks(book, passed)
            for due in (passed, passed - 1, 0, -1, -GREAT):
                for step in (None, 1, GREAT):
                    self.assertIs(outcome(set_alarm, book, "a", due, step), Past, (passed, due, step))
            self.assertEqual(book.waiting(), [])
            self.assertEqual(set_alarm(book, "a", passed + 1, None), 0)
            self.assertEqual(book.due(0), passed + 1)

    def test_a_step_below_1_is_past(self):
        book = Book(10, 3)
        for step in (0, -1, -2, -GREAT):
            for due in (1, 10, GREAT, 0, -5):
                self.assertIs(outcome(set_alarm, book, "a", due, step), Past, (due, step))
        self.assertEqual(book.waiting(), [])

    def test_a_step_of_1(self):
        book = Book(10, 3)
        self.assertEqual(set_alarm(book, "a", 3, 1), 0)
        self.assertEqual(pass_ticks(book, 5), [(3, 0, "a"), (4, 0, "a"), (5, 0, "a")])
        self.assertEqual(book.due(0), 6)

    def test_great_ticks_and_steps(self):
        book = Book(64, 6)
        self.assertEqual(set_alarm(book, "a", GREAT, GREAT), 0)
        self.assertEqual(book.due(0), GREAT)
        self.assertEqual(pass_ticks(book, GREAT), [(GREAT, 0, "a")])
        self.assertEqual(book.due(0), 2 * GREAT)

    def test_names_of_any_kind(self):
        names = ["", " ", "a", "a", "0", "None", "two words", "row\nrow", "\u00e4\u4e2d\U0001f514", "%s{x}", "x" * 5000]
        book = Book(10, 3)
        for number, name in enumerate(names):
            self.assertEqual(set_alarm(book, name, 5, 5), number)
        expected = [(5, number, name) for number, name in enumerate(names)]
        self.assertEqual(ahead(book, 5), expected)
        self.assertEqual(pass_ticks(book, 5), expected)
        self.assertEqual([take_back(book, number) for number in range(len(names))], names)

    def test_numbers_go_on_after_rings_taking_back_and_refusals(self):
        book = Book(10, 3)
        self.assertEqual(set_alarm(book, "a", 2, None), 0)
        self.assertEqual(set_alarm(book, "b", 1, None), 1)
        self.assertIs(outcome(set_alarm, book, "c", 0, None), Past)
        self.assertIs(outcome(set_alarm, book, "c", 9, 0), Past)
        self.assertEqual(set_alarm(book, "c", 3, 2), 2)
        self.assertEqual(pass_ticks(book, 3), [(1, 1, "b"), (2, 0, "a"), (3, 2, "c")])
        self.assertEqual(set_alarm(book, "d", 4, None), 3)
        take_back(book, 3)
        self.assertEqual(set_alarm(book, "e", 9, None), 4)
        rest(book, 4)
        self.assertEqual(set_alarm(book, "f", 9, None), 5)
        take_back(book, 4)
        self.assertIs(outcome(set_alarm, book, "g", 3, None), Past)
        self.assertIs(outcome(set_alarm, book, "g", 4, -1), Past)
        self.assertEqual(set_alarm(book, "g", 4, None), 6)
        self.assertEqual(book.waiting(), [2, 5, 6])

    def test_numbers_do_not_hang_on_the_ticks(self):
        book = Book(10, 3)
        for number, due in enumerate((500, 3, 77, 3, GREAT)):
            self.assertEqual(set_alarm(book, "a", due, None), number)
        self.assertEqual(book.waiting(), [0, 1, 2, 3, 4])
        self.assertEqual([book.due(number) for number in range(5)], [500, 3, 77, 3, GREAT])


class Deeds(unittest.TestCase):
    """[2.2]"""

    WAITS = (0, 1)
    RESTS = (2, 3)
    # Rung, taken back as it waited, taken back as it rested; never set; below 0.
    NOT_THERE = (4, 5, 6, 7, 8, 100, GREAT, -1, -2, -7, -GREAT)

    def book(self):
        book = Book(10, 3)
        for number, (due, step) in enumerate(((50, None), (60, 7), (70, None), (80, 9), (3, None), (9, 1), (9, 1))):
            self.assertEqual(set_alarm(book, f"n{number}", due, step), number)
        rest(book, 2)
        take_back(book, 5)
        rest(book, 6)
        take_back(book, 6)
        pass_ticks(book, 20)
        rest(book, 3)
        return book

    def test_the_book_of_these_tests(self):
        book = self.book()
        self.assertEqual((book.time(), book.waiting(), book.resting()), (20, [0, 1], [2, 3]))
        self.assertEqual([book.due(0), book.due(1), book.left(2), book.left(3)], [50, 60, 70, 60])

    def test_what_does_not_wait_is_not_due_and_lies_nowhere(self):
        book = self.book()
        for number in self.RESTS + self.NOT_THERE:
            self.assertIs(outcome(book.due, number), NotThere, number)
            self.assertIs(outcome(book.where, number), NotThere, number)

    def test_what_does_not_rest_has_nothing_left(self):
        book = self.book()
        for number in self.WAITS + self.NOT_THERE:
            self.assertIs(outcome(book.left, number), NotThere, number)

    def test_take_back(self):
        for number in self.WAITS + self.RESTS:
            book = self.book()
            self.assertEqual(take_back(book, number), f"n{number}")
            self.assertEqual(book.waiting(), [n for n in self.WAITS if n != number])
            self.assertEqual(book.resting(), [n for n in self.RESTS if n != number])
            for deed in (take_back, rest, go_on):
                self.assertIs(outcome(deed, book, number), NotThere)
            self.assertIs(outcome(move, book, number, 99), NotThere)
            self.assertNotIn(number, [triple[1] for triple in pass_ticks(book, 200)])
        book = self.book()
        for number in self.NOT_THERE:
            self.assertIs(outcome(take_back, book, number), NotThere, number)

    def test_move(self):
        book = self.book()
        for due in (21, 22, 30, 100, 1000, GREAT, 55):
            self.assertIsNone(move(book, 0, due))
            self.assertEqual((book.due(0), book.due(1), book.waiting()), (due, 60, [0, 1]))
        self.assertEqual(pass_ticks(book, 40), [(55, 0, "n0"), (60, 1, "n1")])

    def test_move_to_the_tick_that_it_has(self):
        book = self.book()
        self.assertIsNone(move(book, 1, 60))
        self.assertEqual(book.due(1), 60)
        self.assertEqual(book.lying(1, 6), [1])

    def test_move_to_what_is_past(self):
        book = self.book()
        for due in (20, 19, 0, -1, -GREAT):
            for number in self.WAITS:
                self.assertIs(outcome(move, book, number, due), Past, (number, due))
        self.assertEqual([book.due(0), book.due(1)], [50, 60])

    def test_not_there_goes_ahead_of_past(self):
        book = self.book()
        for number in self.RESTS + self.NOT_THERE:
            for due in (21, 500, 20, 19, 0, -1, -GREAT):
                self.assertIs(outcome(move, book, number, due), NotThere, (number, due))

    def test_rest(self):
        book = self.book()
        self.assertIsNone(rest(book, 0))
        self.assertEqual((book.waiting(), book.resting(), book.left(0)), ([1], [0, 2, 3], 30))
        for number in (0,) + self.RESTS + self.NOT_THERE:
            self.assertIs(outcome(rest, book, number), NotThere, number)

    def test_go_on(self):
        book = self.book()
        self.assertIsNone(go_on(book, 3))
        self.assertEqual((book.waiting(), book.resting(), book.due(3)), ([0, 1, 3], [2], 80))
        for number in (3,) + self.WAITS + self.NOT_THERE:
            self.assertIs(outcome(go_on, book, number), NotThere, number)

    def test_a_resting_alarm_has_as_much_left_while_time_goes_on(self):
        book = Book(10, 3)
        set_alarm(book, "a", 25, None)
        pass_ticks(book, 11)
        rest(book, 0)
        for ticks in (0, 1, 13, 14, 1000, GREAT):
            self.assertEqual(pass_ticks(book, ticks), [])
            self.assertEqual((book.left(0), book.resting(), book.waiting()), (14, [0], []))
        now = book.time()
        go_on(book, 0)
        self.assertEqual(book.due(0), now + 14)
        self.assertEqual(pass_ticks(book, 13), [])
        self.assertEqual(pass_ticks(book, 1), [(now + 14, 0, "a")])
        self.assertEqual((book.waiting(), book.resting()), ([], []))

    def test_one_tick_left(self):
        book = Book(2, 1)
        set_alarm(book, "a", 8, 3)
        pass_ticks(book, 7)
        rest(book, 0)
        self.assertEqual(book.left(0), 1)
        pass_ticks(book, 5)
        go_on(book, 0)
        self.assertEqual(pass_ticks(book, 4), [(13, 0, "a"), (16, 0, "a")])

    def test_rest_and_go_on_again_and_again(self):
        book = Book(3, 2)
        set_alarm(book, "a", 10, None)
        for left in (10, 9, 8, 7):
            rest(book, 0)
            self.assertEqual(book.left(0), left)
            pass_ticks(book, 6)
            go_on(book, 0)
            self.assertEqual(book.due(0), book.time() + left)
            self.assertEqual(pass_ticks(book, 1), [])
        self.assertEqual(pass_ticks(book, 6), [(book.time(), 0, "a")])

    def test_name_and_step_are_kept(self):
        book = Book(10, 3)
        set_alarm(book, "a", 5, 4)
        move(book, 0, 30)
        rest(book, 0)
        pass_ticks(book, 100)
        go_on(book, 0)
        move(book, 0, 131)
        self.assertEqual(pass_ticks(book, 40), [(131, 0, "a"), (135, 0, "a"), (139, 0, "a")])
        rest(book, 0)
        self.assertEqual(book.left(0), 3)
        go_on(book, 0)
        self.assertEqual(pass_ticks(book, 7), [(143, 0, "a"), (147, 0, "a")])
        self.assertEqual(take_back(book, 0), "a")

    def test_what_had_no_step_has_none(self):
        book = Book(10, 3)
        set_alarm(book, "a", 5, None)
        move(book, 0, 30)
        rest(book, 0)
        go_on(book, 0)
        self.assertEqual(pass_ticks(book, 500), [(30, 0, "a")])
        self.assertEqual(book.waiting(), [])

    def test_a_stepping_alarm_that_has_rung_is_there(self):
        book = Book(10, 3)
        set_alarm(book, "a", 5, 4)
        pass_ticks(book, 5)
        move(book, 0, 8)
        self.assertEqual(pass_ticks(book, 7), [(8, 0, "a"), (12, 0, "a")])
        self.assertEqual(take_back(book, 0), "a")


if __name__ == "__main__":
    unittest.main()
