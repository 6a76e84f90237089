"""What doing a lot brings, counted without doing it."""

from remainways.doing import crossings, measures_behind
from remainways.steps import check_start, check_step, lot_rules


def times_of(book, term, place, lot):
    """The number of the images of a step place over a lot."""
    check_start(term)
    check_step(book, term, place)
    rules = lot_rules(book, term, lot, 0)
    if place in rules:
        return 0
    times = 1
    for many in times_above(place, rules):
        times = times * many
    return times


def size_after(book, term, lot):
    """The size of the term that doing the lot gives."""
    check_start(term)
    size, levels = measures_behind(term, lot_rules(book, term, lot, 0))
    return size


def lot_dues(book, term, lot):
    """The pair of the least and the greatest dues of a row for the lot."""
    check_start(term)
    rules = lot_rules(book, term, lot, 0)
    return bounds(rules, {place: rules[place].due for place in rules})


def lot_steps(book, term, lot):
    """The pair of the least and the greatest number of steps of a row for the lot."""
    check_start(term)
    return step_bounds(lot_rules(book, term, lot, 0))


def step_bounds(rules):
    """The pair of the least and the greatest number of steps of a row for a lot, a dict to the rules."""
    return bounds(rules, {place: 1 for place in rules})


def bounds(rules, dues):
    """The pair of the least and the greatest sum of dues of a row, with these dues of the places of a lot."""
    least = 0
    greatest = 0
    for place in rules:
        times = times_above(place, rules)
        if 0 not in times:
            least = least + dues[place]
        weight = dues[place]
        for many in times:
            weight = weight * max(many, 1)
        greatest = greatest + weight
    return (least, greatest)


def times_above(place, rules):
    """How often the hole, in which a place lies, stands in the right side, for each place of a lot above it."""
    return [len(spots) for above, ahead, spots in crossings(place, rules)]
