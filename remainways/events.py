"""Events of ways in even books, and their causes."""

from remainways.errors import Copies, NotClosed, NotWithin, UnknownEvent
from remainways.pasts import check_strikes
from remainways.remains import check_starts
from remainways.trails import Trail, step_row, trail_of
from remainways.ways import Way
from remainways.words import is_number


def count_events(way):
    """The number of the events."""
    check_even(way.book)
    return len(step_row(way))


def extent(way, part):
    """The tuple of the events of a way that another way, which is within it, does."""
    check_starts(way, part)
    check_even(way.book)
    events = {sign: event for event, (sign, before) in enumerate(trail_of(way))}
    trail = Trail(part.book, part.start)
    found = []
    for place in step_row(part):
        sign = trail.sign_at(place)
        if sign not in events:
            raise NotWithin()
        trail.do(sign, events[sign])
        found.append(events[sign])
    return tuple(sorted(found))


def causes(way, event):
    """The ascending tuple of the causes of an event."""
    check_even(way.book)
    rows = trail_of(way)
    check_event(rows, event)
    return tuple(causes_of(rows, event))


def is_before(way, one, other):
    """Whether the one event is a cause of the other."""
    check_even(way.book)
    rows = trail_of(way)
    check_event(rows, one)
    check_event(rows, other)
    return one in causes_of(rows, other)


def part_of(way, events):
    """The part with the extent that has just these events."""
    check_even(way.book)
    rows = trail_of(way)
    for event in events:
        check_event(rows, event)
    chosen = {event: True for event in sorted(set(events))}
    for event in chosen:
        # All lesser events have their causes.
        if [cause for cause in rows[event][1] if cause not in chosen]:
            raise NotClosed(event, [cause for cause in causes_of(rows, event) if cause not in chosen][0])
    return part_with(way, rows, chosen)


def without_event(way, one, other):
    """The part of the other event and its causes alone, None if the one event is among these."""
    check_even(way.book)
    rows = trail_of(way)
    check_event(rows, one)
    check_event(rows, other)
    chosen = {event: True for event in causes_of(rows, other) + [other]}
    return None if one in chosen else part_with(way, rows, chosen)


def chain_layers(way):
    """The list of the ascending tuples of the events by their longest chains of causes."""
    check_even(way.book)
    return chains(trail_of(way))


def check_even(book):
    """Raises the errors for a book that is not even."""
    check_strikes(book)
    index = book.first_copying()
    if index is not None:
        raise Copies(index)


def check_event(rows, value):
    """Raises the error for any value that is no event."""
    if not is_number(value, 0, len(rows) - 1):
        raise UnknownEvent(value)


def causes_of(rows, event):
    """The ascending list of the causes of an event."""
    found = {}
    waiting = list(rows[event][1])
    while waiting:
        cause = waiting.pop()
        if cause not in found:
            found[cause] = True
            waiting.extend(rows[cause][1])
    return sorted(found)


def chains(rows):
    """The list of the ascending tuples of the events by their longest chains of causes."""
    layers = []
    lengths = []
    for event, row in enumerate(rows):
        length = 1 + max([lengths[cause] for cause in row[1]], default=-1)
        lengths.append(length)
        if length == len(layers):
            layers.append([])
        layers[length].append(event)
    return [tuple(layer) for layer in layers]


def part_with(way, rows, chosen):
    """The part of a way that does these events, which have all of their causes."""
    trail = Trail(way.book, way.start)
    part = Way(way.book, way.start)
    for layer in chains(rows):
        events = [event for event in layer if event in chosen]
        if events:
            part = part.with_lot([trail.place_of(rows[event][0]) for event in events])
        for event in events:
            trail.do(rows[event][0], event)
    return part
