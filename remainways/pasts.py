"""Works in books that strike nothing: what two of them have in common, and steps that are taken out."""

from remainways.courses import course_of
from remainways.errors import Strikes
from remainways.grove import Grove
from remainways.remains import check_starts
from remainways.steps import check_step
from remainways.ways import Way


def common_past(one, other):
    """The way of what is done in both of two ways."""
    check_starts(one, other)
    check_strikes(one.book)
    grove = Grove(one.book)
    courses = [course_of(grove, one), course_of(grove, other)]
    past = Way(one.book, one.start)
    while True:
        lot, beside = [lot_of_marks(grove, course.layer()) for course in courses]
        both = {place: lot[place] for place in lot if place in beside}
        if not both:
            return past
        past = past.with_lot(list(both))
        courses = [course.behind(grove.lot_tree(both)) for course in courses]


def without(way, place):
    """The way with a step place of the start taken out."""
    check_strikes(way.book)
    check_step(way.book, way.start, place)
    grove = Grove(way.book)
    course = course_of(grove, way)
    barred = grove.lot_tree({place: 0})
    kept = Way(way.book, way.start)
    while True:
        hanging = lot_of_marks(grove, barred)
        layer = lot_of_marks(grove, course.layer())
        lot = {step: layer[step] for step in layer if step not in hanging}
        if not lot:
            return kept
        kept = kept.with_lot(list(lot))
        course = course.behind(grove.lot_tree(lot))
        barred = grove.left_of(barred, grove.lot_tree(lot))


def check_strikes(book):
    """Raises the error with the first rule of a book that strikes."""
    index = book.first_striking()
    if index is not None:
        raise Strikes(index)


def lot_of_marks(grove, tree):
    """The lot that a tree tells, as a dict from its places to their marks."""
    return {place: mark for place, mark in grove.marked_places(tree)}
