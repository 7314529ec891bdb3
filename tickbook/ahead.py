"""What will ring, told ahead of its time."""

from tickbook.books import check_stretch


def rings_until(book, number, end):
    name = book.names[number]
    step = book.steps[number]
    tick = book.due(number)
    rings = []
    while tick <= end:
        rings.append((tick, number, name))
        if step is None:
            break
        tick = tick + step
    return rings


def ahead(book, ticks):
    check_stretch(ticks)
    end = book.time() + ticks
    rings = []
    for number in book.waiting():
        rings.extend(rings_until(book, number, end))
    # No alarm rings twice at one tick, so the order is by tick and number alone.
    return sorted(rings)
