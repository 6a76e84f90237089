"""Lots and terms as numbered trees."""

import random
import unittest

from remainways.courses import course_of, lot_trees
from remainways.doing import done, left_lot
from remainways.grove import NOTHING, Grove
from remainways.steps import rule_at, step_places
from remainways.terms import Term
from remainways.ways import Way
from tests.helper import BOOKS, Case, cases, nested, part_of, places_by_words, shared
from tests.waywords import random_lots

CASES = cases(120, 503)


def marks_of(book, term, lot):
    """The places of a lot with their rules."""
    return {place: rule_at(book, term, place) for place in lot}


class GroveTest(Case):
    def test_equal_trees_have_equal_numbers(self):
        grove = Grove(BOOKS[2])
        self.assertEqual(grove.lot_tree({}), NOTHING)
        one, other = grove.lot_tree({(): 0, (2, 1): 1}), grove.lot_tree({(2, 1): 1, (): 0})
        self.assertEqual([one == other, grove.tree(0, [NOTHING, grove.tree(None, (grove.tree(1, ()),))])], [True, one])
        self.assertNotEqual(one, grove.lot_tree({(): 0, (2, 1): 0}))
        self.assertNotEqual(grove.lot_tree({(1,): 0}), grove.lot_tree({(2,): 0}))
        self.assertEqual(grove.tree(None, [NOTHING, NOTHING]), NOTHING)
        same = grove.term_tree(Term.read("f(two(o),two(o))"))
        self.assertEqual(same, grove.term_tree(Term("f", *[Term.read("two(o)")] * 2)))

    def test_lots_are_told_back(self):
        dice = random.Random(1)
        for book, term, steps in CASES:
            grove, lot = Grove(book), marks_of(book, term, part_of(dice, steps))
            tree = grove.lot_tree(lot)
            self.assertEqual(grove.marked_places(tree), sorted(lot.items()))
            self.assertEqual(grove.count_in(tree), len(lot))
            numbered, marks = grove.numbered(tree)
            self.assertEqual(grove.marked_places(numbered), list(zip(sorted(lot), range(len(lot)))))
            self.assertEqual(marks, [lot[place] for place in sorted(lot)])
            kept = {at: marks[at] for at in range(0, len(lot), 2)}
            self.assertEqual(grove.marked_places(grove.marked(numbered, kept)), sorted(lot.items())[::2])

    def test_steps_and_what_lots_make(self):
        dice = random.Random(2)
        for book, term, steps in CASES:
            grove = Grove(book)
            tree = grove.term_tree(term)
            self.assertEqual(grove.count_in(tree), len(places_by_words(term)))
            self.assertEqual(grove.marked_places(grove.steps_in(tree)), sorted(marks_of(book, term, steps).items()))
            lot, other = part_of(dice, steps), part_of(dice, steps)
            lot_tree, other_tree = (grove.lot_tree(marks_of(book, term, row)) for row in (lot, other))
            self.assertEqual(grove.behind(tree, lot_tree), grove.term_tree(done(book, term, lot)))
            left = grove.left_of(lot_tree, other_tree)
            self.assertEqual(tuple(place for place, mark in grove.marked_places(left)), left_lot(book, term, lot, other))
            self.assertEqual(grove.left_of(lot_tree, lot_tree), NOTHING)

    def test_great_terms_and_lots(self):
        grove, term = Grove(BOOKS[2]), nested("two", 90, Term("o"))
        tree = grove.term_tree(term)
        lot = grove.steps_in(tree)
        self.assertEqual(grove.count_in(lot), 90)
        self.assertEqual(grove.behind(tree, lot), grove.term_tree(shared("pair", 90, Term("o"))))
        upper = grove.lot_tree(marks_of(BOOKS[2], term, step_places(BOOKS[2], term)[:45]))
        self.assertEqual(grove.count_in(grove.left_of(lot, upper)), 45 * 2 ** 45)
        self.assertEqual(grove.count_in(grove.behind(tree, lot)), 2 ** 91 - 1)

    def test_deep_terms(self):
        grove, term = Grove(BOOKS[1]), nested("s", 5000, Term.read("one(o)"))
        tree = grove.term_tree(term)
        lot = grove.steps_in(tree)
        self.assertEqual(grove.marked_places(lot), [((1,) * 5000, 0)])
        self.assertEqual(grove.behind(tree, lot), grove.term_tree(nested("s", 5000, Term("o"))))
        self.assertEqual(grove.numbered(lot), (lot, [0]))


class CourseTest(Case):
    def test_courses_of_ways(self):
        dice = random.Random(3)
        for book, term, steps in CASES:
            way = Way(book, term, random_lots(dice, book, term, 3) + [()])
            grove = Grove(book)
            course = course_of(grove, way)
            self.assertEqual([course.term, len(lot_trees(grove, way))], [grove.term_tree(term), len(way)])
            self.assertEqual(len(course.trees), len([lot for lot in way.lots() if lot]))
            behind = course.behind(course.layer())
            for place in step_places(book, term):
                tree = grove.lot_tree({place: 0})
                self.assertEqual(course.left_behind(tree), behind.left_behind(grove.left_of(tree, course.layer())))


if __name__ == "__main__":
    unittest.main()
