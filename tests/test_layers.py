"""First layers, layers, settled ways, keys, differences, single steps."""

import random
import unittest

from remainways.books import Book
from remainways.layers import difference, first_layer, key_of, layers, settled, singles
from remainways.places import lot_text
from remainways.remains import alike, images, joined, within
from remainways.steps import step_places
from remainways.terms import Term
from remainways.ways import Way
from tests.helper import BOOKS, Case, cases, nested, part_of, sized
from tests.waywords import (STRIKING, chain, difference_by_words, first_layer_by_words, great_start, key_by_words,
                            layers_by_words, lower, random_lots, random_ways, singles_by_words, strangers, twin_of,
                            upper)

PAIRS = random_ways(200, 211, 2, 4)
BOOK = BOOKS[2]
START = Term.read("two(two(o))")
# Books that neither copy nor strike, that copy, that strike, that do both.
KINDS = [BOOKS[4], Book.read("1 two(X) -> pair(X,X)\n1 one(X) -> X\n"),
         Book.read("1 fst(pair(X,Y)) -> X\n1 one(X) -> X\n"), BOOKS[5]]


class LayersTest(Case):
    def test_ordinary_layers(self):
        rows = (
            (BOOK, START, "-", []), (BOOK, START, "0;0", []), (BOOK, START, ".", [((),)]),
            (BOOK, START, "1;.", [((), (1,))]), (BOOK, START, ".;1;2", [((), (1,))]),
            (BOOK, START, ".;0;2", [((),), ((2,),)]), (BOOK, START, ".;2;1", [((), (1,))]),
            (BOOKS[1], Term.read("one(one(o))"), "1", [((1,),)]), (BOOKS[1], Term.read("one(one(o))"), ".", [((),)]),
            (BOOKS[1], Term.read("one(one(o))"), ".;.", [((), (1,))]),
        )
        for book, start, text, wanted in rows:
            way = Way.read(book, start, text)
            self.assert_equal(layers(way), wanted)
            self.assert_equal(first_layer(way), wanted[0] if wanted else ())
            self.assert_equal(key_of(way), key_by_words(wanted))
            self.assert_equal(settled(way).lots(), wanted)

    def test_names_of_parameters(self):
        way = Way.read(BOOK, START, "1;.")
        self.assertEqual([first_layer(way=way), key_of(way=way)], [((), (1,)), ".+1"])
        self.assertEqual([layers(way=way), settled(way=way).text()], [[((), (1,))], ".+1"])
        self.assertEqual(singles(way=way).text(), "1;.")
        self.assertEqual(difference(one=way, other=Way(BOOK, START)), (0, 0, (), ((),)))

    def test_what_is_struck_is_in_the_layer(self):
        way = Way.read(BOOK, Term.read("fst(pair(two(o),two(two(o))))"), ".")
        self.assert_equal(layers(way), [((), (1, 2), (1, 2, 1))])
        self.assert_equal(first_layer(way), ((), (1, 2), (1, 2, 1)))
        start = Term.read("fst(pair(o,two(o)))")
        one, other = Way(BOOK, start, [[(1, 2)], [()]]), Way(BOOK, start, [[()]])
        self.assertEqual([alike(one, other), key_of(one), key_of(other)], [True, ".+1.2", ".+1.2"])

    def test_layers_by_words(self):
        for pair in PAIRS:
            for way in pair:
                wanted = layers_by_words(way.book, way.start, way.lots())
                self.assert_equal(layers(way), wanted)
                self.assert_equal(first_layer(way), first_layer_by_words(way.book, way.start, way.lots()))
                self.assert_equal(key_of(way), key_by_words(wanted))
                self.assertEqual(settled(way), Way(way.book, way.start, wanted))

    def test_books_that_copy_or_strike_or_both_or_neither(self):
        kinds = [(book.first_copying() is not None, book.first_striking() is not None) for book in KINDS]
        self.assertEqual(kinds, [(False, False), (True, False), (False, True), (True, True)])
        for book in KINDS:
            dice = random.Random(book.text())
            met = 0
            for other, start, steps in cases(400, 223):
                if other == book:
                    way = Way(book, start, random_lots(dice, book, start, 4))
                    self.assert_equal(layers(way), layers_by_words(book, start, way.lots()))
                    met += 1
            self.assertTrue(met > 20 or book not in BOOKS)
        for book in KINDS[1:3]:
            for text in ("two(one(two(one(o))))", "fst(pair(one(fst(pair(o,one(o)))),one(o)))"):
                dice = random.Random(text)
                for _ in range(40):
                    way = Way(book, Term.read(text), random_lots(dice, book, Term.read(text), 5))
                    self.assert_equal(layers(way), layers_by_words(book, way.start, way.lots()))

    def test_lists_are_new(self):
        way = Way.read(BOOK, START, ".;0;2")
        layers(way).clear()
        layers(way).append(None)
        self.assert_equal(layers(way), [((),), ((2,),)])
        self.assertEqual(way.text(), ".;0;2")


class FactsTest(Case):
    def test_a_way_and_its_settled_way_are_alike(self):
        for pair in PAIRS:
            for way in pair:
                found = settled(way)
                self.assertIs(alike(way, found), True)
                self.assertEqual([found.end, settled(found)], [way.end, found])

    def test_no_layer_is_empty(self):
        for pair in PAIRS:
            for way in pair:
                self.assertNotIn((), layers(way))

    def test_no_way_that_is_alike_has_fewer_lots(self):
        for pair in PAIRS:
            for way in pair:
                full = [lot for lot in way.lots() if lot]
                self.assertLessEqual(len(layers(way)), len(full))

    def test_alike_exactly_if_the_keys_are_equal(self):
        met = 0
        for one, other in PAIRS:
            for first, second in ((one, other), (joined(one, other), joined(other, one)), (one, joined(one, other)),
                                  (singles(one), one), (twin_of(one), one)):
                self.assertIs(alike(first, second), key_of(first) == key_of(second))
                met += alike(first, second)
        self.assertGreater(met, len(PAIRS) * 2)

    def test_the_first_layer_is_within_the_way(self):
        for one, other in PAIRS:
            layer = first_layer(one)
            for place in step_places(one.book, one.start):
                step = Way(one.book, one.start, [[place]])
                self.assertIs(place in layer, within(step, one))


class GreatTest(Case):
    def test_settled_ways_that_are_not_fit(self):
        for many in (12, 40, 90):
            way = Way(STRIKING, great_start(many), [[(1,)], [()]])
            layer = ((1,),) + tuple((2,) + (1,) * at for at in range(many))
            self.assert_equal(layers(way), [layer, ((),)])
            self.assert_equal(first_layer(way), layer)
            self.assert_equal(key_of(way), lot_text(layer) + ";.")
            self.raises("TooGreat", [], settled, way)
            begun = Way(STRIKING, great_start(many), [[(1,)]])
            self.assert_equal(difference(way, begun), (0, 0, (2,), ((2,),)))
            self.assert_equal(difference(begun, way), (0, 1, (2,), ((2,),)))
            self.assert_equal(settled(begun).text(), "1")

    def test_just_fit(self):
        way = Way(STRIKING, great_start(9), [[(1,)], [()]])
        self.assertEqual(settled(way).text(), key_of(way))

    def test_differences_behind_a_term_that_is_not_fit(self):
        book = STRIKING + Book.read("1 g(X) -> n\n").rules()[0]
        start = Term("pair", great_start(20), Term.read("two(two(g(o)))"))
        lots = [[(1, 1), (2,)], [(1,), (2, 1)]]
        one, other = Way(book, start, lots), Way(book, start, lots + [[(2, 1, 1)]])
        for way in (one, other):
            self.assertEqual(key_of(way).split(";")[1], "1+2.1")
            self.raises("TooGreat", [], settled, way)
        self.assert_equal(difference(one, other), (2, 1, (2, 1, 1), ((2, 1, 1),)))
        self.assert_equal(difference(other, one), (2, 0, (2, 1, 1), ((2, 1, 1),)))
        third = Way(book, start, [[(1, 1), (2,)], [(1,)], [(2, 2)]])
        self.assert_equal(difference(one, third), (1, 0, (2, 1), ((2, 1),)))
        self.assert_equal(difference(third, one), (1, 0, (2, 2), ((2, 2),)))

    def test_layers_of_very_many_places(self):
        # The second layer has 2**many places, all of them struck, and is not gone through place by place.
        book = Book.read("1 two(X) -> pair(X,X)\n1 c -> k\n1 h(k,X) -> o\n1 u -> n\n1 n -> o\n")
        for many, told in ((7, True), (10, True), (13, False), (40, False), (90, False)):
            way = Way.read(book, Term("h", Term("c"), nested("two", many, Term("u"))), "1;.")
            layer = ((1,),) + tuple((2,) + (1,) * at for at in range(many + 1))
            self.assert_equal(first_layer(way), layer)
            begun = Way(book, way.start, [[(1,)]])
            self.assertEqual([alike(way, begun), within(begun, way)], [False, True])
            self.assert_equal(difference(way, begun), (0, 0, (2,), ((2,),)))
            if told:
                self.assertEqual([len(lot) for lot in layers(way)], [many + 2, 1 + 2 ** many])
                self.assertEqual(key_of(way), key_by_words(layers(way)))
            else:
                for call in (layers, settled, key_of):
                    self.raises("TooGreat", [], call, way)

    def test_many_levels(self):
        # The struck part has more than 1000 levels in between.
        text = "w(" * 20 + "X" + ")" * 20
        book = Book.read(f"1 u(X) -> v({text})\n1 v(X) -> {text}\n1 c -> d\n1 d -> k\n1 h(k,X) -> o\n")
        way = Way.read(book, Term("h", Term("c"), nested("u", 60, Term("o"))), "1;1;.")
        found = layers(way)
        self.assertEqual([len(layer) for layer in found], [61, 61, 1])
        self.assert_equal(found[1][-1], (2,) + (1,) * (21 * 59))
        self.raises("TooGreat", [], settled, way)
        self.assertEqual(key_of(way), key_by_words(found))

    def test_layers_of_great_chains(self):
        for way in (upper(14, 7), lower(14, 7)):
            self.assertEqual([len(layers(way)), len(layers(way)[0])], [1, 7])
            self.assertIs(alike(way, settled(way)), True)
        one, other = upper(12, 6), lower(12, 6)
        self.assert_equal(difference(one, other), (0, 0, (), ((),)))
        self.assert_equal(difference(other, one), (0, 0, (1,) * 6, images(one, (1,) * 6)))
        self.assertEqual(len(images(one, (1,) * 6)), 64)


class DifferenceTest(Case):
    def test_ordinary_differences(self):
        start = Term.read("one(one(o))")
        one, other = Way(BOOKS[1], start, [[()]]), Way(BOOKS[1], start, [[(1,)]])
        self.assert_equal(difference(one, other), (0, 0, (), ((),)))
        self.assert_equal(difference(other, one), (0, 0, (1,), ((),)))
        self.assert_equal(difference(one, Way(BOOKS[1], start)), (0, 0, (), ((),)))
        self.assert_equal(difference(Way(BOOKS[1], start), one), (0, 1, (), ((),)))
        ways = [Way.read(BOOK, START, text) for text in (".", ".;1", ".;2", ".;1;2")]
        self.assert_equal(difference(ways[0], ways[1]), (1, 1, (1,), ((1,),)))
        self.assert_equal(difference(ways[1], ways[0]), (1, 0, (1,), ((1,),)))
        self.assert_equal(difference(ways[1], ways[2]), (1, 0, (1,), ((1,),)))
        self.assert_equal(difference(ways[2], ways[1]), (1, 0, (2,), ((2,),)))
        self.assert_equal(difference(ways[3], ways[0]), (0, 0, (1,), ((1,), (2,))))
        self.assert_equal(difference(ways[1], ways[3]), (0, 1, (1,), ((2,),)))

    def test_differences_by_words(self):
        met = {}
        for one, other in PAIRS:
            for first, second in ((one, other), (other, one), (one, joined(one, other)), (settled(other), one)):
                if not alike(first, second):
                    found = difference(first, second)
                    wanted = difference_by_words(first.book, first.start, first.lots(), second.lots())
                    self.assert_equal(found, wanted)
                    self.assertNotEqual(found[3], ())
                    met[found[:2]] = True
        self.assertEqual(set(met) >= {(0, 0), (0, 1), (1, 0), (1, 1)}, True)

    def test_alike_ways_and_other_starts(self):
        way = Way.read(BOOK, START, ".;1")
        for other in (way, twin_of(way), settled(way), singles(way), Way.read(BOOK, START, "0;.;1;0")):
            self.raises("Alike", [], difference, way, other)
            self.raises("Alike", [], difference, other, way)
        self.raises("Alike", [], difference, Way(BOOK, START), Way(BOOK, START, [[]]))
        for other in strangers(way):
            self.raises("OtherStart", [], difference, way, other)
            self.raises("OtherStart", [], difference, other, way)

    def test_alike_ways_whose_settled_way_is_not_fit(self):
        start = great_start(40)
        one = Way(STRIKING, start, [[(1,)], [()]])
        other = Way(STRIKING, start, [[(1,)], [], [()]])
        self.raises("Alike", [], difference, one, other)
        self.assertEqual(key_of(one), key_of(other))


class SinglesTest(Case):
    def test_ordinary_single_steps(self):
        way = Way.read(BOOK, START, "0;.+1;0;0")
        self.assertEqual(singles(way).text(), "1;.")
        self.assertEqual([singles(Way(BOOK, START)).text(), singles(Way(BOOK, START, [[]])).text()], ["-", "-"])
        start = Term.read("f(two(o),two(two(o)))")
        self.assertEqual(singles(Way.read(BOOK, start, "1+2+2.1")).text(), "2.1;2;1")

    def test_by_words(self):
        dice = random.Random(1)
        for one, other in PAIRS:
            for way in (one, other):
                found = singles(way)
                self.assert_equal(found.lots(), singles_by_words(way.lots()))
                self.assertIs(alike(found, way), True)
                self.assertEqual([found.end, found.book, found.start], [way.end, way.book, way.start])
        for book, start, steps in cases(40, 227):
            lot = part_of(dice, steps)
            self.assertEqual(singles(Way(book, start, [lot])).end, Way(book, start, [lot]).end)

    def test_single_steps_that_are_not_fit(self):
        start = Term("fst", Term("pair", Term("o"), chain(12)))
        way = Way(BOOK, start, [[()] + [(1, 2) + (1,) * at for at in range(12)]])
        self.assertEqual([way.end.text(), key_of(way)], ["o", lot_text(way.lots()[0])])
        self.raises("TooGreat", [], singles, way)
        fits = Term("fst", Term("pair", sized(400), Term("two", sized(600))))
        self.assertEqual(singles(Way.read(BOOK, fits, ".+1.2")).text(), "1.2;.")
        great = Term("fst", Term("pair", sized(400), Term("two", sized(900))))
        self.raises("TooGreat", [], singles, Way.read(BOOK, great, ".+1.2"))


if __name__ == "__main__":
    unittest.main()
