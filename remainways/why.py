"""Runs of ways on pieces of their starts, and why a piece of the end is there."""

from remainways.doing import filled
from remainways.errors import NotPiece
from remainways.pieces import is_piece_of, joined_piece
from remainways.places import TOP
from remainways.steps import is_fitting, lot_rules
from remainways.terms import Term, find_sub
from remainways.words import BLANK


def run_on(way, piece):
    """The list of the pieces of the run on a piece of the start, this piece itself first."""
    check_piece(piece, way.start)
    found = [piece]
    for lot in lots_with_rules(way):
        found.append(piece_behind(found[-1], lot))
    return found


def standing(way, piece):
    """The list of the lots of the places that stand in the run on a piece of the start."""
    run = run_on(way, piece)
    return [tuple(standing_in(ahead, lot)) for ahead, lot in zip(run, lots_with_rules(way))]


def why(way, *, piece=None):
    """Why a piece of the end is there, or the whole end: the least piece of the start that brings it."""
    wanted = way.end if piece is None else piece
    check_piece(wanted, way.end)
    for lot in reversed(lots_with_rules(way)):
        wanted = piece_ahead(wanted, lot)
    return wanted


def check_piece(value, term):
    """Raises the error for any value that is no piece of a term."""
    if not is_piece_of(value, term):
        raise NotPiece()


def lots_with_rules(way):
    """The list of the lots of a way, each as a dict from its places to their rules."""
    return [lot_rules(way.book, term, lot, 0) for term, lot in zip(way.terms(), way.lots())]


def standing_in(piece, lot):
    """The list of the places of a lot that stand on the piece ahead of it."""
    return [place for place in lot if stands(piece, place, lot[place])]


def stands(piece, place, rule):
    """Whether a piece has a name at each place of a name of a left side that fits there in the term."""
    part = find_sub(piece, place)
    return part is not None and is_fitting(rule.left, part)


def piece_behind(piece, lot):
    """The piece to which a lot leads from a piece of the term ahead of it."""
    return run_at(TOP, piece, lot, places_above(lot))


def run_at(place, piece, lot, above):
    """What a lot makes of the part of a piece at a place."""
    if piece.sign() is None or place not in above:
        return piece
    if place not in lot:
        parts = [run_at(place + (number,), part, lot, above) for number, part in enumerate(piece, start=1)]
        return Term(piece.word, *parts)
    rule = lot[place]
    if not is_fitting(rule.left, piece):
        return Term(BLANK)
    contents = {hole: run_at(place + spot, piece.sub(spot), lot, above) for spot, hole in rule.left_holes()}
    return filled(rule.right, contents)


def piece_ahead(piece, lot):
    """The least piece of the term ahead of a lot from which the lot leads to a piece of the term behind it."""
    return need_at(TOP, piece, lot, places_above(lot))


def need_at(place, piece, lot, above):
    """What must stand at a place ahead of a lot to bring a piece there."""
    if piece.sign() is None or place not in above:
        return piece
    if place not in lot:
        parts = [need_at(place + (number,), part, lot, above) for number, part in enumerate(piece, start=1)]
        return Term(piece.word, *parts)
    rule = lot[place]
    contents = {}
    for spot, hole in rule.left_holes():
        contents[hole] = need_at(place + spot, joined_at(piece, rule.hole_places(hole)), lot, above)
    return filled(rule.left, contents)


def joined_at(piece, places):
    """The joined piece of what a piece has at some places, where it has nothing beneath its blanks."""
    found = Term(BLANK)
    for place in places:
        part = find_sub(piece, place)
        if part is not None:
            found = joined_piece(found, part)
    return found


def places_above(lot):
    """A dict with all places at or above the places of a lot as its keys."""
    return {place[:many]: True for place in lot for many in range(len(place) + 1)}
