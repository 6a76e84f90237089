"""Courses: what is to be done from a term, where neither the term nor the lots have a bound."""

from remainways.errors import TooGreat
from remainways.grove import NOTHING
from remainways.steps import index_at
from remainways.terms import MOST_PLACES


class Course:
    """A term and the lots that are to be done from there, as trees of one grove; it never changes.

    The lots lead to a term that is fit. Empty lots are left out, as they mean nothing.
    """

    def __init__(self, grove, term, trees):
        self.grove = grove
        self.term = term
        self.trees = tuple([tree for tree in trees if tree != NOTHING])

    def left_behind(self, lot):
        """What is left of a lot of the term, with any marks, after all lots of the course."""
        found = lot
        for tree in self.trees:
            found = self.grove.left_of(found, tree)
        return found

    def behind(self, lot):
        """The course that is left after a lot of the term."""
        down, across = self.grove.remains(self.trees, [lot])
        return Course(self.grove, self.grove.behind(self.term, lot), down)

    def layer(self):
        """The lot of all step places of the term of which nothing is left after the course."""
        steps = self.grove.steps_in(self.term)
        # Each other step place has an image of its own in the fit end, so this layer has more than 2000 places.
        if self.grove.count_in(steps) > 2 * MOST_PLACES:
            raise TooGreat()
        numbered, indexes = self.grove.numbered(steps)
        staying = self.grove.marks_in(self.left_behind(numbered))
        gone = {number: index for number, index in enumerate(indexes) if number not in staying}
        return self.grove.marked(numbered, gone)

    def layers(self):
        """The list of the layers."""
        found = []
        course = self
        while course.trees:
            layer = course.layer()
            found.append(layer)
            course = course.behind(layer)
        return found


def course_of(grove, way):
    """The course of a way."""
    return Course(grove, grove.term_tree(way.start), lot_trees(grove, way))


def lot_trees(grove, way):
    """The list of the lots of a way as trees."""
    found = []
    for term, lot in zip(way.terms(), way.lots()):
        found.append(grove.lot_tree({place: index_at(way.book, term, place) for place in lot}))
    return found


def lot_of_tree(grove, tree):
    """The lot that a tree tells, as a tuple."""
    return tuple([place for place, mark in grove.marked_places(tree)])


def with_trees(grove, way, trees):
    """A way with more lots behind its own, given as trees; raises the error if a term is not fit."""
    longer = way
    for tree in trees:
        longer = longer.with_lot(lot_of_tree(grove, tree))
    return longer
