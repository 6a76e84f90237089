"""Orders of the events of ways in even books, numbered without going through them one by one."""

from remainways.errors import NoOrder, NotRow, TooMany
from remainways.events import check_even
from remainways.trails import Trail, trail_of
from remainways.ways import Way
from remainways.words import is_number
from remainways.works import MOST


def count_orders(way):
    """The number of the orders."""
    return counts_of(before_each(way))[0]


def order_at(way, number):
    """The order with a number."""
    before = before_each(way)
    counts = counts_of(before)
    if not is_number(number, 0, counts[0] - 1):
        raise NoOrder(number)
    done = 0
    left = number
    found = []
    while len(found) < len(before):
        for event in ready(before, done):
            many = counts[done | 1 << event]
            if left < many:
                break
            left = left - many
        found.append(event)
        done = done | 1 << event
    return tuple(found)


def number_of(way, order):
    """The number of an order."""
    before = before_each(way)
    counts = counts_of(before)
    check_order(before, order)
    done = 0
    number = 0
    for event in order:
        number = number + sum([counts[done | 1 << other] for other in ready(before, done) if other < event])
        done = done | 1 << event
    return number


def row_of(way, order):
    """The way in single steps that does the events in an order."""
    check_even(way.book)
    rows = trail_of(way)
    check_order([before for sign, before in rows], order)
    trail = Trail(way.book, way.start)
    lots = []
    for event in order:
        lots.append([trail.place_of(rows[event][0])])
        trail.do(rows[event][0], event)
    return Way(way.book, way.start, lots)


def before_each(way):
    """For each event of a way the list of the events that must be done ahead, as trail_of tells them."""
    check_even(way.book)
    return [before for sign, before in trail_of(way)]


def counts_of(before):
    """A dict from each closed set of events to the number of orders of the events that are not in it.

    A set is a number with a bit for each event. Raises the error if there are too many, which are as many as there
    are parts.
    """
    # The sets of the first events of any order are closed.
    if len(before) >= MOST:
        raise TooMany(MOST)
    counts = {0: 0}
    found = [0]
    steps = []
    while len(steps) < len(found):
        done = found[len(steps)]
        steps.append([done | 1 << event for event in ready(before, done)])
        for behind in steps[-1]:
            if behind not in counts:
                counts[behind] = 0
                found.append(behind)
        if len(found) > MOST:
            raise TooMany(MOST)
    # The set of all events is found last.
    counts[found[-1]] = 1
    for at in range(len(found) - 2, -1, -1):
        counts[found[at]] = sum([counts[behind] for behind in steps[at]])
    return counts


def ready(before, done):
    """The ascending list of the events that can be done next behind a set of them."""
    return [event for event in range(len(before))
            if not done >> event & 1 and all([done >> cause & 1 for cause in before[event]])]


def check_order(before, value):
    """Raises the error for any value that is no order."""
    if not isinstance(value, (list, tuple)):
        raise NotRow(0)
    done = {}
    for at, event in enumerate(value):
        if not is_number(event, 0, len(before) - 1) or event in done:
            raise NotRow(at)
        if [cause for cause in before[event] if cause not in done]:
            raise NotRow(at)
        done[event] = True
    if len(value) < len(before):
        raise NotRow(len(value))
