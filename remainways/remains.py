"""What is left of ways, lots and places after ways; squares, joins, and which ways are the same work."""

from remainways.courses import lot_of_tree, lot_trees, with_trees
from remainways.doing import fit_term_behind
from remainways.errors import OtherStart
from remainways.grove import NOTHING, Grove
from remainways.steps import check_step, lot_rules
from remainways.ways import Way


def left(one, other):
    """The way that is left of the one after the other."""
    check_starts(one, other)
    grove = Grove(one.book)
    down, across = grove.remains(lot_trees(grove, one), lot_trees(grove, other))
    return with_trees(grove, Way(one.book, other.end), down)


def images(way, place):
    """The lot of the images of a step place of the start after a way."""
    check_step(way.book, way.start, place)
    return images_of([place], way)


def left_of_lot(way, lot):
    """What is left of a lot of the start after a way."""
    return images_of(list(lot_rules(way.book, way.start, lot, 0)), way)


def squares(one, other):
    """The tuple (corners, downs, acrosses) of the squares of two ways."""
    check_starts(one, other)
    grove = Grove(one.book)
    downs, acrosses = square_trees(grove, one, other)
    corners = [other.terms()]
    for term, row in zip(one.terms()[1:], downs):
        pairs = list(zip(corners[-1][1:], row[1:]))
        corners.append([term] + [corner_below(one.book, above, lot_of_tree(grove, tree)) for above, tree in pairs])
    return corners, lots_of_rows(grove, downs), lots_of_rows(grove, acrosses)


def joined(way, *others):
    """The join of one way or more, made from the left."""
    for other in others:
        check_starts(way, other)
    grove = Grove(way.book)
    whole = way
    for other in others:
        down, across = grove.remains(lot_trees(grove, whole), lot_trees(grove, other))
        whole = with_trees(grove, whole, across)
    return whole


def within(one, other):
    """Whether nothing is left of the one after the other."""
    check_starts(one, other)
    grove = Grove(one.book)
    down, across = grove.remains(lot_trees(grove, one), lot_trees(grove, other))
    return are_empty(down)


def alike(one, other):
    """Whether two ways are the same work."""
    check_starts(one, other)
    grove = Grove(one.book)
    down, across = grove.remains(lot_trees(grove, one), lot_trees(grove, other))
    return are_empty(down) and are_empty(across)


def check_starts(one, other):
    """Raises the error unless two ways have equal books and equal starts."""
    if one.book != other.book or one.start != other.start:
        raise OtherStart()


def images_of(places, way):
    """The lot of the images of step places of the start after a way."""
    grove = Grove(way.book)
    # Any mark will do for what is followed.
    found = grove.lot_tree({place: 0 for place in places})
    for tree in lot_trees(grove, way):
        found = grove.left_of(found, tree)
    return lot_of_tree(grove, found)


def square_trees(grove, one, other):
    """The pair of the lots down and the lots across of the squares of two ways, both as lists of lists of trees."""
    downs = []
    acrosses = [lot_trees(grove, other)]
    for tree in lot_trees(grove, one):
        down = [tree]
        across = []
        for step in list(acrosses[-1]):
            across.append(grove.left_of(step, down[-1]))
            down.append(grove.left_of(down[-1], step))
        downs.append(down)
        acrosses.append(across)
    return downs, acrosses


def lots_of_rows(grove, rows):
    """Lists of lists of trees as lots."""
    return [[lot_of_tree(grove, tree) for tree in row] for row in rows]


def corner_below(book, term, lot):
    """The term at the corner that a lot down leads to; raises the error if it is not fit."""
    return fit_term_behind(term, lot_rules(book, term, lot, 0))


def are_empty(trees):
    """Whether all lots of a list are empty."""
    return not [tree for tree in trees if tree != NOTHING]
