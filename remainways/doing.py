"""Doing lots, and what becomes of step places meanwhile.

The functions without checks take a lot as the dict that lot_rules gives: from its places to their rules.
"""

from remainways.errors import TooGreat
from remainways.places import TOP
from remainways.steps import check_start, check_step, lot_rules
from remainways.terms import MOST_LEVELS, MOST_PLACES, Term


def done(book, term, lot):
    """The term that doing the lot gives."""
    check_start(term)
    return fit_term_behind(term, lot_rules(book, term, lot, 0))


def followed(book, term, place, lot):
    """The ascending list of the images of a step place over a lot."""
    check_start(term)
    check_step(book, term, place)
    return images_over(place, lot_rules(book, term, lot, 0))


def left_lot(book, term, lot, other):
    """What is left of a lot after another one of the same term."""
    check_start(term)
    rules = lot_rules(book, term, lot, 0)
    return tuple(left_rules(rules, lot_rules(book, term, other, 0)))


def crossings(place, lot):
    """The list of the triples (above, ahead, spots) for each place of the lot above a place, the topmost first.

    ahead is the place of the hole, in whose contents the place lies; spots are its places in the right side.
    """
    found = []
    for many in range(len(place)):
        above = place[:many]
        if above in lot:
            rule = lot[above]
            for spot, hole in rule.left_holes():
                ahead = above + spot
                if place[:len(ahead)] == ahead:
                    found.append((above, ahead, rule.hole_places(hole)))
    return found


def images_over(place, lot):
    """The ascending list of the images of a step place over a lot."""
    if place in lot:
        return []
    images = [TOP]
    gone = 0
    for above, ahead, spots in crossings(place, lot):
        images = [image + place[gone:len(above)] + spot for image in images for spot in spots]
        gone = len(ahead)
    return sorted([image + place[gone:] for image in images])


def left_rules(lot, other):
    """What is left of a lot after another one, again as a dict to the rules, ascending."""
    found = {}
    for place in lot:
        for image in images_over(place, other):
            found[image] = lot[place]
    return {place: found[place] for place in sorted(found)}


def spine(term, lot):
    """The list of the pairs of each place at or above a place of the lot, descending, and the subterm there."""
    above = {}
    for place in lot:
        for many in range(len(place) + 1):
            above[place[:many]] = True
    found = {}
    for place in sorted(above):
        found[place] = found[place[:-1]].sub(place[-1:]) if place else term
    return [(place, found[place]) for place in sorted(found, reverse=True)]


def measures_behind(term, lot):
    """The pair of the size and the levels of the term behind a lot, without doing it."""
    found = {}
    for place, part in spine(term, lot):
        if place in lot:
            found[place] = measures_filled(lot[place], place, part, found)
        else:
            inner = [found.get(place + (at,), measures_of(sub)) for at, sub in enumerate(part, start=1)]
            size = 1 + sum([pair[0] for pair in inner])
            found[place] = (size, 1 + max([pair[1] for pair in inner], default=0))
    return found.get(TOP, measures_of(term))


def measures_of(term):
    """The pair of the size and the levels of a term."""
    return (term.size(), term.levels)


def measures_filled(rule, place, part, found):
    """The pair of the size and the levels of the right side that is put at a place instead of this part.

    found has the measures of the contents that are no longer those of the part.
    """
    size = rule.right.size()
    levels = rule.right.levels
    for spot, hole in rule.left_holes():
        inner = found.get(place + spot, measures_of(part.sub(spot)))
        for right_spot in rule.hole_places(hole):
            size = size + inner[0] - 1
            levels = max(levels, len(right_spot) + inner[1])
    return (size, levels)


def is_fit_behind(term, lot):
    """Whether the term behind a lot is fit, counted ahead of putting it together."""
    size, levels = measures_behind(term, lot)
    return size <= MOST_PLACES and levels <= MOST_LEVELS


def fit_term_behind(term, lot):
    """The term behind a lot; raises the error if it is not fit."""
    if not is_fit_behind(term, lot):
        raise TooGreat()
    return term_behind(term, lot)


def term_behind(term, lot):
    """The term behind a lot."""
    made = {}
    for place, part in spine(term, lot):
        if place in lot:
            rule = lot[place]
            contents = {hole: made.get(place + spot, part.sub(spot)) for spot, hole in rule.left_holes()}
            made[place] = filled(rule.right, contents)
        else:
            parts = [made.get(place + (at,), sub) for at, sub in enumerate(part, start=1)]
            made[place] = Term(part.word, *parts)
    return made.get(TOP, term)


def filled(side, contents):
    """A right side with the contents of its holes."""
    if side.sign() is None:
        return contents[side.word]
    parts = [filled(part, contents) for part in side]
    return Term(side.word, *parts)
