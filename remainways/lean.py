"""Lean ways, and ways that are moved to other starts."""

from remainways.courses import course_of
from remainways.errors import NotPiece, OtherStart
from remainways.grove import Grove
from remainways.pieces import is_piece_of
from remainways.steps import check_start
from remainways.ways import Way
from remainways.why import piece_behind, standing, standing_in, why


def lean(way):
    """The way of the places of the layers that stand in the run on why the whole end is there."""
    grove = Grove(way.book)
    rules = way.book.rules()
    # Alike ways have the same why; the settled way may have terms that are not fit.
    piece = why(way)
    course = course_of(grove, way)
    found = Way(way.book, way.start)
    while course.trees:
        layer = course.layer()
        # Places beneath blanks are passed over.
        lot = {place: rules[index] for place, index in grove.marked_places(layer) if place in piece}
        steps = standing_in(piece, lot)
        if steps:
            found = found.with_lot(steps)
        piece = piece_behind(piece, lot)
        course = course.behind(layer)
    return found


def moved(way, piece, term):
    """The way moved to a term, by a piece of its start and of this term."""
    check_start(term)
    if not is_piece_of(piece, way.start):
        raise NotPiece()
    if not is_piece_of(piece, term):
        raise OtherStart()
    return Way(way.book, term, standing(way, piece))
