"""Pieces of terms: the terms with some subterms replaced by blanks."""

from remainways.errors import Clash
from remainways.places import TOP
from remainways.terms import Term, walk
from remainways.words import BLANK


def is_piece_of(piece, term):
    """Whether any value is a piece of a term without holes."""
    if not isinstance(piece, Term) or not piece.is_piece():
        return False
    met = {}
    waiting = [(piece, term)]
    while waiting:
        one, other = waiting.pop()
        pair = (one.mark, other.mark)
        if one.sign() is not None and pair not in met:
            met[pair] = True
            if one.sign() != other.sign():
                return False
            waiting.extend(list(zip(one.parts(), other.parts())))
    return True


def common_piece(one, other):
    """The common piece of two terms without holes."""
    return one & other


def joined_piece(one, other):
    """The piece that has a name where one of two pieces has one."""
    place = first_clash(one, other)
    if place is not None:
        raise Clash(place)
    made = {}
    waiting = [(one, other)]
    while waiting:
        first, second = waiting[-1]
        pairs = list(zip(first.parts(), second.parts()))
        ahead = [pair for pair in pairs if (pair[0].mark, pair[1].mark) not in made]
        if ahead:
            waiting.extend(ahead)
        else:
            parts = [made[(inner.mark, beside.mark)] for inner, beside in pairs]
            named = second if first.sign() is None else first
            made[(first.mark, second.mark)] = Term(named.word, *parts) if pairs else named
            waiting.pop()
    return made[(one.mark, other.mark)]


def without_sign(piece, place):
    """The piece with a blank at a place."""
    return piece.with_sub(place, Term(BLANK))


def named_places(piece):
    """The ascending list of the places at which a piece has a name."""
    return [place for place, part in walk(piece) if part.sign() is not None]


def first_clash(one, other):
    """The least place at which both of two pieces have a name and the signs differ, None if there is none."""
    met = {}
    waiting = [(TOP, one, other)]
    while waiting:
        place, first, second = waiting.pop()
        pair = (first.mark, second.mark)
        if pair not in met:
            met[pair] = True
            if first.sign() is not None and second.sign() is not None and first.sign() != second.sign():
                return place
            # A blank has no parts.
            pairs = list(zip(first.parts(), second.parts()))
            for number in range(len(pairs), 0, -1):
                inner, beside = pairs[number - 1]
                waiting.append((place + (number,), inner, beside))
    return None
