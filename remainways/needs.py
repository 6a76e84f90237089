"""Needed steps: those that no way to the rest can do without."""

from remainways.errors import Needed
from remainways.lean import lean
from remainways.pieces import named_places
from remainways.rests import ROUNDS, way_to_rest
from remainways.steps import check_start, check_step, step_places
from remainways.ways import Way
from remainways.why import why


def needed(book, term, *, rounds=ROUNDS):
    """The lot of the needed places."""
    return needed_on(way_to_rest(book, term, rounds))


def around(book, term, place, *, rounds=ROUNDS):
    """The lean way of the full layers to the rest, around a place that is not needed."""
    check_start(term)
    check_step(book, term, place)
    way = way_to_rest(book, term, rounds)
    if place in needed_on(way):
        raise Needed(place)
    return lean(way)


def needed_rounds(book, term, *, rounds=ROUNDS):
    """The way to the rest that does all needed places of the term reached in each lot."""
    lot = needed(book, term, rounds=rounds)
    way = Way(book, term)
    while lot:
        way = way.with_lot(lot)
        lot = needed(book, way.end, rounds=rounds)
    return way


def needed_on(way):
    """The lot of the step places of the start that are needed for the rest to which a way leads."""
    named = {place: True for place in named_places(why(way))}
    return tuple([place for place in step_places(way.book, way.start) if place in named])
