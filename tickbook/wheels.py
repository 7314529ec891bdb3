"""The wheels of a book: how many ticks their slots span, and where a tick lies in them."""

from tickbook.errors import BadWheels

FEWEST_SLOTS = 2
MOST_SLOTS = 64
FEWEST_LEVELS = 1
MOST_LEVELS = 6


def check_wheels(slots, levels):
    if slots < FEWEST_SLOTS or slots > MOST_SLOTS:
        raise BadWheels(f"slots must be {FEWEST_SLOTS} to {MOST_SLOTS}, not {slots}")
    if levels < FEWEST_LEVELS or levels > MOST_LEVELS:
        raise BadWheels(f"levels must be {FEWEST_LEVELS} to {MOST_LEVELS}, not {levels}")


def slot_spans(slots, levels):
    spans = [1]
    for level in range(1, levels):
        spans.append(spans[level - 1] * slots)
    return spans


class Wheels:
    def __init__(self, slots, levels):
        # Ahead of the spans: levels that are refused may be too many to count through.
        check_wheels(slots, levels)
        self.slots = slots
        # A tuple, so that whoever reads the spans can't change them.
        self.spans = tuple(slot_spans(slots, levels))

    def place(self, now, due):
        for level, span in enumerate(self.spans):
            whole = span * self.slots
            # The stretches begin at multiples of the whole span, not at the tick that it is:
            # a near tick behind a stretch's end so lies a level higher, or in none.
            if now // whole == due // whole:
                return (level, due % whole // span)
        return None
