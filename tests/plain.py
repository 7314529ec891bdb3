"""What the tests share: a plain reckoning of alarms without wheels, and all that a book tells at once."""

import copy
import sys

from tickbook.ahead import ahead
from tickbook.books import go_on, set_alarm, take_back
from tickbook.errors import NotThere, Past, TickError

GREAT = 999999999999999

# Books of every kind of edge: the fewest and the most slots and levels, and some between.
SHAPES = ((2, 1), (2, 3), (2, 6), (3, 2), (5, 3), (10, 3), (64, 1), (64, 6))


def outcome(deed, *arguments):
    """What a deed tells, or the class of its refusal."""
    try:
        return deed(*arguments)
    except TickError as error:
        return type(error)


def place_by_words(slots, levels, now, due):
    """[1.2] as it is written, for ticks of any size."""
    for level in range(levels):
        whole = slots ** (level + 1)
        first = now - now % whole
        if first <= due < first + whole:
            return (level, (due - first) // slots ** level)
    return None


def all_slots(slots, levels):
    """Every slot of every level, and what lies just outside them."""
    return [(level, slot) for level in range(-1, levels + 2) for slot in range(-1, slots + 2)]


def told(book, slots, levels):
    """All that a book tells, and all that it would tell of names, steps and numbers."""
    following = set_alarm(copy.deepcopy(book), "", book.time() + 1, None)
    numbers = range(-2, following + 2)
    awake = copy.deepcopy(book)
    for number in awake.resting():
        go_on(awake, number)
    return {
        "time": book.time(),
        "waiting": book.waiting(),
        "resting": book.resting(),
        "soonest": book.soonest(),
        "due": [outcome(book.due, number) for number in numbers],
        "left": [outcome(book.left, number) for number in numbers],
        "where": [outcome(book.where, number) for number in numbers],
        "lying": [book.lying(level, slot) for level, slot in all_slots(slots, levels)],
        "names": [outcome(take_back, copy.deepcopy(book), number) for number in numbers],
        "ahead": ahead(copy.deepcopy(book), 40),
        "ahead of all": ahead(awake, 40),
        "following": following,
    }


def assert_lies_well(case, book, slots, levels):
    """[1.2]: where() of each alarm that waits and lying() of every slot are as the definition says."""
    expected = {}
    for number in book.waiting():
        place = place_by_words(slots, levels, book.time(), book.due(number))
        case.assertEqual(book.where(number), place, (slots, levels, book.time(), book.due(number)))
        expected.setdefault(place, []).append(number)
    for level, slot in all_slots(slots, levels):
        case.assertEqual(
            book.lying(level, slot), expected.get((level, slot), []), (slots, levels, book.time(), level, slot)
        )


class TooLong(Exception):
    pass


def within_lines(lines, deed, *arguments):
    """What a deed tells; TooLong if it runs through more lines of the program than that."""
    run = 0
    before = sys.gettrace()

    def watch(frame, event, argument):
        nonlocal run
        run += 1
        if run > lines:
            raise TooLong(f"more than {lines} lines")
        return watch

    sys.settrace(watch)
    try:
        return deed(*arguments)
    finally:
        sys.settrace(before)


class PlainBook:
    """A book without wheels: each alarm's ticks are reckoned by themselves."""

    def __init__(self):
        self.now = 0
        self.alarms = []

    def state(self, number):
        return self.alarms[number]["state"] if 0 <= number < len(self.alarms) else "none"

    def numbers(self, state):
        return [number for number in range(len(self.alarms)) if self.state(number) == state]

    def ask(self, number, state):
        if self.state(number) != state:
            raise NotThere("plain")
        return self.alarms[number]

    def set_alarm(self, name, due, step):
        if due <= self.now or (step is not None and step <= 0):
            raise Past("plain")
        self.alarms.append({"state": "waits", "name": name, "ticks": due, "step": step})
        return len(self.alarms) - 1

    def take_back(self, number):
        if self.state(number) not in ("waits", "rests"):
            raise NotThere("plain")
        self.alarms[number]["state"] = "gone"
        return self.alarms[number]["name"]

    def move(self, number, due):
        alarm = self.ask(number, "waits")
        if due <= self.now:
            raise Past("plain")
        alarm["ticks"] = due

    def rest(self, number):
        alarm = self.ask(number, "waits")
        alarm["state"] = "rests"
        alarm["ticks"] -= self.now

    def go_on(self, number):
        alarm = self.ask(number, "rests")
        alarm["state"] = "waits"
        alarm["ticks"] += self.now

    def soonest(self):
        return min((self.alarms[number]["ticks"] for number in self.numbers("waits")), default=None)

    def rings_within(self, ticks):
        """How many rings a stretch has, without letting time go on."""
        found = 0
        for number in self.numbers("waits"):
            alarm = self.alarms[number]
            reach = self.now + ticks - alarm["ticks"]
            if reach >= 0:
                found += 1 if alarm["step"] is None else 1 + reach // alarm["step"]
        return found

    def pass_ticks(self, ticks):
        if ticks < 0:
            raise Past("plain")
        end = self.now + ticks
        rung = []
        for number in self.numbers("waits"):
            alarm = self.alarms[number]
            while alarm["state"] == "waits" and alarm["ticks"] <= end:
                rung.append((alarm["ticks"], number, alarm["name"]))
                if alarm["step"] is None:
                    alarm["state"] = "gone"
                else:
                    alarm["ticks"] += alarm["step"]
        self.now = end
        return sorted(rung, key=lambda triple: triple[:2])
