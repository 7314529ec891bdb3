"""[2.4], [0.1] and [0.2] over the whole program, and many drawn deeds held against a plain reckoning."""

import copy
import random
import unittest

from plain import GREAT, SHAPES, PlainBook, assert_lies_well, outcome, told
from tickbook.ahead import ahead
from tickbook.books import Book, go_on, move, pass_ticks, rest, set_alarm, take_back
from tickbook.errors import NotThere, Past

# [0.3] bounds the rings of a stretch.
MOST_RINGS = 1000


def mixed_book(slots, levels):
    """Alarms that wait near and far, with and without steps, that rest, rang and were taken back."""
    book = Book(slots, levels)
    for number, (due, step) in enumerate(((3, None), (30, None), (31, 4), (5000, 9), (44, 6), (50, None), (60, 1), (7, 5))):
        set_alarm(book, f"n{number}", due, step)
    rest(book, 4)
    take_back(book, 6)
    pass_ticks(book, 23)
    rest(book, 5)
    return book


class Refusals(unittest.TestCase):
    """[2.4] What is refused changes nothing."""

    def assert_refused(self, error, deed, *arguments):
        for slots, levels in SHAPES:
            book = mixed_book(slots, levels)
            before = told(book, slots, levels)
            with self.subTest(slots=slots, levels=levels, deed=deed.__name__, arguments=arguments):
                self.assertIs(outcome(deed, book, *arguments), error)
                self.assertEqual(told(book, slots, levels), before)
                assert_lies_well(self, book, slots, levels)

    def test_set(self):
        for due, step in ((23, None), (22, None), (0, 5), (-1, None), (24, 0), (24, -1), (23, 0), (-GREAT, -GREAT)):
            self.assert_refused(Past, set_alarm, "new", due, step)

    def test_take_back(self):
        for number in (0, 6, 8, GREAT, -1, -8):
            self.assert_refused(NotThere, take_back, number)

    def test_move(self):
        for number in (1, 2, 3, 7):
            for due in (23, 0, -1):
                self.assert_refused(Past, move, number, due)
        for number in (0, 4, 5, 6, 8, -1):
            for due in (24, 23, -1):
                self.assert_refused(NotThere, move, number, due)

    def test_rest(self):
        for number in (0, 4, 5, 6, 8, -1):
            self.assert_refused(NotThere, rest, number)

    def test_go_on(self):
        for number in (0, 1, 2, 3, 6, 7, 8, -1):
            self.assert_refused(NotThere, go_on, number)

    def test_stretches(self):
        for ticks in (-1, -23, -24, -GREAT):
            self.assert_refused(Past, pass_ticks, ticks)
            self.assert_refused(Past, ahead, ticks)

    def test_questions(self):
        for name, numbers in (("due", (0, 4, 6, 8, -1)), ("where", (0, 5, 6, 8, -1)), ("left", (0, 1, 2, 6, 8, -1))):
            def ask(book, number):
                return getattr(book, name)(number)
            for number in numbers:
                self.assert_refused(NotThere, ask, number)

    def test_after_refusals_the_book_goes_on_as_another(self):
        book = mixed_book(10, 3)
        other = mixed_book(10, 3)
        for deed, arguments in (
            (set_alarm, ("x", 23, None)), (set_alarm, ("x", 99, 0)), (move, (1, 5)), (move, (0, 99)), (rest, (4,)),
            (go_on, (1,)), (take_back, (0,)), (pass_ticks, (-1,)), (ahead, (-1,)),
        ):
            self.assertIn(outcome(deed, book, *arguments), (Past, NotThere))
        self.assertEqual(set_alarm(book, "y", 99, None), set_alarm(other, "y", 99, None))
        self.assertEqual(pass_ticks(book, 500), pass_ticks(other, 500))
        self.assertEqual(told(book, 10, 3), told(other, 10, 3))


class NothingIsShared(unittest.TestCase):
    """[0.1]"""

    def test_a_list_that_was_told_may_be_changed(self):
        for slots, levels in SHAPES:
            book = mixed_book(slots, levels)
            before = told(book, slots, levels)
            lists = [book.waiting(), book.resting(), ahead(book, 30), pass_ticks(book, 0)]
            for level in range(-1, levels + 1):
                lists.extend([book.lying(level, slot) for slot in range(-1, slots + 1)])
            for changed in lists:
                changed.append(77)
                changed.insert(0, -5)
                changed.reverse()
            self.assertEqual(told(book, slots, levels), before)
            for changed in lists:
                changed.clear()
            self.assertEqual(told(book, slots, levels), before)

    def test_a_list_of_rings_may_be_changed(self):
        book = mixed_book(10, 3)
        other = mixed_book(10, 3)
        rung = pass_ticks(book, 30)
        self.assertEqual(rung, pass_ticks(other, 30))
        rung.clear()
        self.assertEqual(told(book, 10, 3), told(other, 10, 3))
        self.assertEqual(pass_ticks(book, 30), pass_ticks(other, 30))

    def test_a_list_that_was_told_does_not_change_as_the_book_does(self):
        book = mixed_book(10, 3)
        waiting, resting, lying, foretold = book.waiting(), book.resting(), book.lying(1, 3), ahead(book, 9)
        copies = copy.deepcopy((waiting, resting, lying, foretold))
        set_alarm(book, "new", 33, None)
        go_on(book, 4)
        rung = pass_ticks(book, 9)
        rung_then = list(rung)
        pass_ticks(book, 50)
        self.assertEqual((waiting, resting, lying, foretold), copies)
        self.assertEqual(rung, rung_then)

    def test_each_answer_is_a_new_list(self):
        book = mixed_book(10, 3)
        for ask in (
            book.waiting, book.resting, lambda: book.lying(1, 3), lambda: book.lying(0, 0), lambda: book.lying(-1, 0),
            lambda: ahead(book, 9), lambda: ahead(book, 0), lambda: pass_ticks(book, 0),
        ):
            self.assertEqual(ask(), ask())
            self.assertIsNot(ask(), ask())

    def test_two_books_do_not_touch_one_another(self):
        one = mixed_book(10, 3)
        before = told(one, 10, 3)
        other = Book(10, 3)
        self.assertEqual((other.time(), other.waiting(), other.resting(), other.soonest()), (0, [], [], None))
        self.assertEqual(set_alarm(other, "other", 3, 2), 0)
        set_alarm(other, "other", 31, None)
        rest(other, 1)
        pass_ticks(other, 100)
        take_back(other, 1)
        self.assertEqual(told(one, 10, 3), before)
        after = told(other, 10, 3)
        pass_ticks(one, 77)
        take_back(one, 4)
        self.assertEqual(told(other, 10, 3), after)

    def test_no_clock_and_no_chance(self):
        for slots, levels in SHAPES:
            one = mixed_book(slots, levels)
            other = mixed_book(slots, levels)
            self.assertEqual(told(one, slots, levels), told(other, slots, levels))
            self.assertEqual(pass_ticks(one, 400), pass_ticks(other, 400))


class Drawn(unittest.TestCase):
    """[0.2] and all of stage 2, for many drawn books, alarms, deeds and stretches."""

    def draw_ticks(self, draw, slots, levels):
        """Near the edges of a level's spans, or anything."""
        edge = slots ** draw.randrange(levels + 2) * draw.randrange(1, slots + 1)
        return draw.choice((0, 1, 2, draw.randrange(10), draw.randrange(100), edge - 1, edge, edge + 1))

    def draw_deed(self, draw, plain, slots, levels):
        ticks = self.draw_ticks(draw, slots, levels)
        number = draw.choice(plain.numbers("waits") * 2 + plain.numbers("rests") * 2 + [-1, 0, len(plain.alarms)])
        deed = draw.choice(
            ("set_alarm",) * 4 + ("pass_ticks",) * 3 + ("take_back", "move", "move", "rest", "rest", "go_on", "go_on")
        )
        if deed == "set_alarm":
            near = 1 + self.draw_ticks(draw, slots, levels)
            step = draw.choice((None, None, None, 0, -3, slots ** levels, near, near + slots ** levels // 8))
            return deed, (draw.choice(("", "a", "b")), plain.now + ticks - draw.randrange(2), step)
        if deed == "move":
            return deed, (number, plain.now + ticks - draw.randrange(3))
        if deed == "pass_ticks":
            while plain.rings_within(ticks) > MOST_RINGS:
                ticks //= 2
            return deed, (ticks - draw.randrange(2),)
        return deed, (number,)

    def assert_same(self, book, plain, slots, levels):
        self.assertEqual(book.time(), plain.now)
        self.assertEqual(book.waiting(), plain.numbers("waits"))
        self.assertEqual(book.resting(), plain.numbers("rests"))
        self.assertEqual([book.due(number) for number in book.waiting()],
                         [plain.alarms[number]["ticks"] for number in plain.numbers("waits")])
        self.assertEqual([book.left(number) for number in book.resting()],
                         [plain.alarms[number]["ticks"] for number in plain.numbers("rests")])
        self.assertEqual(book.soonest(), plain.soonest())
        assert_lies_well(self, book, slots, levels)

    def run_deeds(self, draw, slots, levels, deeds):
        book = Book(slots, levels)
        plain = PlainBook()
        calls = {"set_alarm": set_alarm, "take_back": take_back, "move": move, "rest": rest, "go_on": go_on,
                 "pass_ticks": pass_ticks}
        for time in range(deeds):
            deed, arguments = self.draw_deed(draw, plain, slots, levels)
            foretold = outcome(ahead, book, *arguments) if deed == "pass_ticks" else None
            expected = outcome(getattr(plain, deed), *arguments)
            self.assertEqual(outcome(calls[deed], book, *arguments), expected, (slots, levels, deed, arguments))
            if deed == "pass_ticks":
                self.assertEqual(foretold, expected)
            self.assert_same(book, plain, slots, levels)
        return book, plain

    def test_drawn_deeds(self):
        for slots, levels in SHAPES + ((2, 2), (3, 4), (4, 1), (7, 2)):
            for seed in range(4):
                with self.subTest(slots=slots, levels=levels, seed=seed):
                    self.run_deeds(random.Random(f"{slots} {levels} {seed}"), slots, levels, 70)

    def test_one_stretch_or_several(self):
        for slots, levels in SHAPES + ((2, 2), (3, 4), (4, 1), (7, 2)):
            for seed in range(5):
                draw = random.Random(f"several {slots} {levels} {seed}")
                with self.subTest(slots=slots, levels=levels, seed=seed):
                    book, plain = self.run_deeds(draw, slots, levels, 25)
                    stretches = [self.draw_ticks(draw, slots, levels) for time in range(8)]
                    while plain.rings_within(sum(stretches)) > MOST_RINGS:
                        stretches.remove(max(stretches))
                    whole = copy.deepcopy(book)
                    rung = []
                    for ticks in stretches:
                        rung.extend(pass_ticks(book, ticks))
                    expected = plain.pass_ticks(sum(stretches))
                    self.assertEqual(rung, expected)
                    self.assertEqual(pass_ticks(whole, sum(stretches)), expected)
                    self.assertEqual(told(book, slots, levels), told(whole, slots, levels))
                    self.assert_same(whole, plain, slots, levels)

    def test_one_stretch_or_several_of_15_figures(self):
        for slots, levels in SHAPES:
            draw = random.Random(f"great {slots} {levels}")
            book = Book(slots, levels)
            plain = PlainBook()
            for time in range(40):
                due = draw.randrange(1, 10 ** draw.randrange(1, 16))
                step = draw.choice((None, draw.randrange(10 ** 14, 10 ** 15)))
                set_alarm(book, "a", due, step)
                plain.set_alarm("a", due, step)
            stretches = [draw.randrange(10 ** draw.randrange(1, 16)) for time in range(8)]
            whole = copy.deepcopy(book)
            rung = []
            for ticks in stretches:
                rung.extend(pass_ticks(book, ticks))
                assert_lies_well(self, book, slots, levels)
            with self.subTest(slots=slots, levels=levels):
                self.assertEqual(rung, plain.pass_ticks(sum(stretches)))
                self.assertEqual(pass_ticks(whole, sum(stretches)), rung)
                self.assertEqual(told(whole, slots, levels), told(book, slots, levels))
                self.assert_same(book, plain, slots, levels)


if __name__ == "__main__":
    unittest.main()
