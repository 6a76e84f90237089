"""Rows of single steps that do a lot."""

from remainways.counts import step_bounds, times_above
from remainways.doing import left_rules
from remainways.errors import TooMany
from remainways.places import is_beneath
from remainways.steps import check_start, lot_rules

MOST_STEPS = 400


def least_row(book, term, lot):
    """The row that does the places which no place of the lot above them strikes, the last one first."""
    check_start(term)
    rules = lot_rules(book, term, lot, 0)
    return sorted([place for place in rules if 0 not in times_above(place, rules)], reverse=True)


def greatest_row(book, term, lot):
    """The row that finishes each topmost place ahead of the next one, what is struck there first."""
    check_start(term)
    rules = lot_rules(book, term, lot, 0)
    if step_bounds(rules)[1] > MOST_STEPS:
        raise TooMany(MOST_STEPS)
    row = []
    # What is still to be done, the last of it first: steps, and the lot that is gone through behind them.
    waiting = [([], rules)]
    while waiting:
        steps, behind = waiting.pop()
        row.extend(steps)
        tasks = [task for place in topmost(behind) for task in tasks_at(place, behind)]
        waiting.extend(tasks[::-1])
    return row


def rows_of_lot(book, term, lot):
    """All rows for the lot, as tuples of places, ascending, one after the other."""
    check_start(term)
    rules = lot_rules(book, term, lot, 0)
    if not rules:
        yield ()
    waiting = [((), rules, place) for place in sorted(rules, reverse=True)]
    while waiting:
        begun, ahead, place = waiting.pop()
        row = begun + (place,)
        rest = left_rules(ahead, {place: ahead[place]})
        if not rest:
            yield row
        waiting.extend([(row, rest, step) for step in sorted(rest, reverse=True)])


def topmost(rules):
    """The list of the places of a lot, a dict to the rules, that have no place of the lot above them, ascending."""
    found = []
    for place in rules:
        if not found or not is_beneath(place, found[-1]):
            found.append(place)
    return found


def tasks_at(place, rules):
    """The pairs of steps and the lot behind them that finish a topmost place, with what is beneath it."""
    rule = rules[place]
    tasks = []
    for spot, hole in rule.left_holes():
        if rule.times(hole) == 0:
            tasks.append(([], part_of_lot(rules, place + spot)))
    rest = left_rules(part_of_lot(rules, place), {place: rule})
    return tasks + [([place], rest)]


def part_of_lot(rules, place):
    """The places of a lot at or beneath a place."""
    return {other: rules[other] for other in rules if other[:len(place)] == place}
