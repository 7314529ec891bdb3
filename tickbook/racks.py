"""What lies in the slots of a book's wheels: the numbers of its alarms, in one row a level and one row beyond."""

from tickbook.wheels import Wheels


def position(rising, value):
    low = 0
    high = len(rising)
    while low < high:
        middle = (low + high) // 2
        if rising[middle] < value:
            low = middle + 1
        else:
            high = middle
    return low


class Row:
    def __init__(self, span):
        self.span = span
        # Slots are counted from tick 0 on, not from the stretch that it is: so a slot's count stays
        # what it is as time goes on, and the row beyond all levels is kept like the others.
        self.filled = {}
        # The counts of the filled slots: the first is found at once, however many there are.
        self.rising = []

    def put(self, number, tick):
        slot = tick // self.span
        if slot not in self.filled:
            self.filled[slot] = {}
            self.rising.insert(position(self.rising, slot), slot)
        self.filled[slot][number] = True

    def take(self, number, tick):
        slot = tick // self.span
        self.filled[slot].pop(number)
        if len(self.filled[slot]) == 0:
            self.take_slot(slot)

    def take_slot(self, slot):
        self.rising.pop(position(self.rising, slot))
        return sorted(self.filled.pop(slot))

    def numbers_in(self, slot):
        return sorted(self.filled.get(slot, {}))


class Rack:
    def __init__(self, slots, levels):
        self.wheels = Wheels(slots, levels)
        spans = list(self.wheels.spans)
        # What lies in no level lies in a row of its own, by the stretch of the highest level that has its tick.
        spans.append(spans[levels - 1] * slots)
        self.rows = [Row(span) for span in spans]

    def row_of(self, now, tick):
        place = self.wheels.place(now, tick)
        if place is None:
            return self.rows[len(self.rows) - 1]
        return self.rows[place[0]]

    def put(self, now, number, tick):
        self.row_of(now, tick).put(number, tick)

    def take(self, now, number, tick):
        self.row_of(now, tick).take(number, tick)

    def numbers_at(self, now, level, slot):
        slots = self.wheels.slots
        if level < 0 or level >= len(self.wheels.spans) or slot < 0 or slot >= slots:
            return []
        row = self.rows[level]
        return row.numbers_in(now // (row.span * slots) * slots + slot)

    def first_row(self):
        # Whatever lies in a lower row shares a shorter stretch with the tick that it is: it comes sooner.
        for row in self.rows:
            if len(row.rising) > 0:
                return row
        return None

    def first_start(self):
        row = self.first_row()
        if row is None:
            return None
        return row.rising[0] * row.span

    def first_numbers(self):
        row = self.first_row()
        if row is None:
            return []
        return row.numbers_in(row.rising[0])

    def take_first(self):
        row = self.first_row()
        return row.take_slot(row.rising[0])
