"""Layers of ways: the one row of lots that tells a work, and where two works differ."""

from remainways.courses import course_of, lot_of_tree, with_trees
from remainways.errors import Alike
from remainways.grove import Grove
from remainways.remains import alike, check_starts
from remainways.ways import Way, lots_text


def first_layer(way):
    """The lot of all step places of the start of which nothing is left after the way."""
    grove = Grove(way.book)
    return lot_of_tree(grove, course_of(grove, way).layer())


def layers(way):
    """The list of the layers."""
    grove = Grove(way.book)
    return [lot_of_tree(grove, layer) for layer in course_of(grove, way).layers()]


def settled(way):
    """The way with the layers as its lots."""
    grove = Grove(way.book)
    return with_trees(grove, Way(way.book, way.start), course_of(grove, way).layers())


def key_of(way):
    """The text of the lots of the settled way."""
    return lots_text(layers(way))


def difference(one, other):
    """The tuple (layer, which, place, images) that tells where two unlike ways differ."""
    check_starts(one, other)
    if alike(one, other):
        raise Alike()
    grove = Grove(one.book)
    index = 0
    courses = [course_of(grove, one), course_of(grove, other)]
    layer, beside = [course.layer() for course in courses]
    while layer == beside:
        courses = [course.behind(layer) for course in courses]
        layer, beside = [course.layer() for course in courses]
        index = index + 1
    only = missing_in(grove, beside, layer)
    if only:
        return (index, 0, only[0], after(courses[1], only[0]))
    only = missing_in(grove, layer, beside)
    return (index, 1, only[0], after(courses[0], only[0]))


def singles(way):
    """The way in single steps."""
    steps = [[place] for lot in way.lots() for place in reversed(lot)]
    return Way(way.book, way.start, steps)


def missing_in(grove, lot, other):
    """The ascending list of the places of the other lot that are not in the lot, both as trees."""
    places = {place: True for place, index in grove.marked_places(lot)}
    return [place for place, index in grove.marked_places(other) if place not in places]


def after(course, place):
    """The lot of the images of a step place after a course."""
    return lot_of_tree(course.grove, course.left_behind(course.grove.lot_tree({place: 0})))
