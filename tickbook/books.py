"""A book of alarms: what it tells, and what is done with its alarms and its time."""

from tickbook.errors import NotThere, Past
from tickbook.racks import Rack


class Book:
    def __init__(self, slots, levels):
        self.rack = Rack(slots, levels)
        self.now = 0
        self.next_number = 0
        # By number: the names and steps of all alarms, the ticks of those that wait, and how many
        # ticks those that rest have left.
        self.names = {}
        self.steps = {}
        self.ticks = {}
        self.kept_ticks = {}

    def time(self):
        return self.now

    def waiting(self):
        return sorted(self.ticks)

    def resting(self):
        return sorted(self.kept_ticks)

    def due(self, number):
        if number not in self.ticks:
            raise NotThere(f"no alarm {number} waits")
        return self.ticks[number]

    def left(self, number):
        if number not in self.kept_ticks:
            raise NotThere(f"no alarm {number} rests")
        return self.kept_ticks[number]

    def where(self, number):
        return self.rack.wheels.place(self.now, self.due(number))

    def lying(self, level, slot):
        return self.rack.numbers_at(self.now, level, slot)

    def soonest(self):
        return min([self.ticks[number] for number in self.rack.first_numbers()], default=None)


def check_tick(book, due):
    if due <= book.now:
        raise Past(f"tick {due} is not ahead")


def check_step(step):
    if step is not None and step < 1:
        raise Past(f"a step of {step} does not lead ahead")


def check_stretch(ticks):
    if ticks < 0:
        raise Past(f"time does not go on by {ticks} ticks")


def start_waiting(book, number, tick):
    book.ticks[number] = tick
    book.rack.put(book.now, number, tick)


def stop_waiting(book, number):
    book.rack.take(book.now, number, book.ticks.pop(number))


def forget(book, number):
    book.steps.pop(number)
    return book.names.pop(number)


def set_alarm(book, name, due, step):
    check_tick(book, due)
    check_step(step)
    number = book.next_number
    book.next_number = number + 1
    book.names[number] = name
    book.steps[number] = step
    start_waiting(book, number, due)
    return number


def take_back(book, number):
    if number in book.ticks:
        stop_waiting(book, number)
    elif number in book.kept_ticks:
        book.kept_ticks.pop(number)
    else:
        raise NotThere(f"no alarm {number} waits or rests")
    return forget(book, number)


def move(book, number, due):
    # Asked first: an alarm that does not wait is refused as such, whatever the tick.
    book.due(number)
    check_tick(book, due)
    stop_waiting(book, number)
    start_waiting(book, number, due)


def rest(book, number):
    ticks_left = book.due(number) - book.now
    stop_waiting(book, number)
    book.kept_ticks[number] = ticks_left


def go_on(book, number):
    tick = book.now + book.left(number)
    book.kept_ticks.pop(number)
    start_waiting(book, number, tick)


def ring(book, number):
    step = book.steps[number]
    if step is None:
        book.ticks.pop(number)
        return (book.now, number, forget(book, number))
    start_waiting(book, number, book.now + step)
    return (book.now, number, book.names[number])


def turn_to(book, start):
    book.now = start
    rung = []
    # All alarms of this tick lie in this slot, and the rack tells a slot's numbers rising.
    for number in book.rack.take_first():
        if book.ticks[number] == start:
            rung.append(ring(book, number))
        else:
            start_waiting(book, number, book.ticks[number])
    return rung


def pass_ticks(book, ticks):
    check_stretch(ticks)
    end = book.now + ticks
    rung = []
    # From filled slot to filled slot, not from tick to tick: a long stretch takes no longer than a
    # short one. Ahead of the first filled slot no alarm rings and none is handed on.
    start = book.rack.first_start()
    while start is not None and start <= end:
        rung.extend(turn_to(book, start))
        start = book.rack.first_start()
    book.now = end
    return rung
