"""Ways side by side, and ways that are put into terms."""

from remainways.errors import InvalidName, InvalidNumber, NoPlace, OtherBook, TooGreat
from remainways.steps import check_start
from remainways.terms import Term
from remainways.ways import Way
from remainways.words import is_name


def side_by_side(name, ways):
    """The ways of a list side by side under a name."""
    if not is_name(name):
        raise InvalidName(name)
    if not 1 <= len(ways) <= 4:
        raise InvalidNumber(len(ways))
    for way in ways:
        if way.book != ways[0].book:
            raise OtherBook()
    starts = [way.start for way in ways]
    rows = [way.lots() for way in ways]
    lots = []
    for index in range(max([len(row) for row in rows])):
        lots.append([(number,) + place for number, row in enumerate(rows, start=1)
                     for place in lot_at(row, index)])
    return fit_way(ways[0].book, Term(name, *starts), lots)


def put_way(term, place, way):
    """A way put into a term at a place."""
    check_start(term)
    if place not in term:
        raise NoPlace(place)
    lots = [[place + step for step in lot] for lot in way.lots()]
    return fit_way(way.book, term.with_sub(place, way.start), lots)


def lot_at(lots, index):
    """The lot with an index; behind the last one the empty lot."""
    return lots[index] if index < len(lots) else ()


def fit_way(book, start, lots):
    """The way with this start and these lots; raises the error if a term of it is not fit, the start among them."""
    if not start.is_fit():
        raise TooGreat()
    return Way(book, start, lots)
