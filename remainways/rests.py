"""Full layers, and the rests to which they lead."""

from remainways.doing import is_fit_behind
from remainways.errors import InvalidNumber, NoRest
from remainways.steps import check_start, lot_rules, step_places
from remainways.ways import Way
from remainways.words import is_number

ROUNDS = 60
MOST_ROUNDS = 200


def full_layers(book, term, *, rounds=ROUNDS):
    """The tuple (word, way, index) of the word that ends the full layers, their way, and the ring's earlier term."""
    check_start(term)
    check_rounds(rounds)
    way = Way(book, term)
    indexes = {}
    while True:
        lot = step_places(book, way.end)
        text = way.end.text()
        if not lot:
            return ("rest", way, None)
        if text in indexes:
            return ("ring", way, indexes[text])
        if len(way) == rounds:
            return ("open", way, None)
        if not is_fit_behind(way.end, lot_rules(book, way.end, lot, 0)):
            return ("great", way, None)
        indexes[text] = len(way)
        way = way.with_lot(lot)


def rest_of(book, term, *, rounds=ROUNDS):
    """The rest of a term."""
    return way_to_rest(book, term, rounds).end


def way_to_rest(book, term, rounds):
    """The way of the full layers to the rest; raises the error if they end otherwise."""
    word, way, index = full_layers(book, term, rounds=rounds)
    if word != "rest":
        raise NoRest(word)
    return way


def check_rounds(value):
    """Raises the error for any value that is no number of rounds."""
    if not is_number(value, 0, MOST_ROUNDS):
        raise InvalidNumber(value)
