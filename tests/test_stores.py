"""Stores: hands, their works, and the letters that they exchange."""

import random
import unittest

from remainways.books import Book
from remainways.layers import key_of, settled
from remainways.pasts import common_past
from remainways.remains import joined, left, within
from remainways.stores import Store
from remainways.terms import Term
from remainways.ways import Way
from tests.eventwords import EVENS
from tests.helper import ANY_VALUES, BOOKS, Case, cases, nested, sized
from tests.storewords import StoreByWords, random_deed, told_by
from tests.test_pasts import MILD
from tests.test_steps import NO_STARTS
from tests.waywords import chain, key_by_words

TWO = BOOKS[2]
BOOK = Book.read("1 two(X) -> pair(X,X)\n")
START = Term.read("two(two(o))")
NO_NAMES = [value for value in ANY_VALUES if not (isinstance(value, str) and value in ("a", "add"))] + ["A", "abcdefghi", "a b", ["a"]]
NO_HANDS = ANY_VALUES + ["b", "x", "A", ["a"], ("a",), b"a"]
# What is doubled late is small by then, unless the doubling comes first.
LATE = Book.read("1 a -> b\n1 b -> c\n1 c -> k\n1 e(k,X) -> pair(X,X)\n1 grow(X) -> small(X,X,X)\n1 small(X,Y,Z) -> o\n")


def a_store(*names):
    """A new store of the example, with these hands or with a and b."""
    return Store(BOOK, START, *(names or ("a", "b")))


def busy_store():
    """A store with letters, works, and a letter that is laid by."""
    store = a_store("a", "b", "c")
    store.do("a", [()])
    store.do("a", [(1,), (2,)])
    store.do("b", [(1,)])
    store.take("c", 1)
    return store


def great_store():
    """A store in which the hand a did the upper doublings, and b the lower ones step by step, by the letters 1 to 5."""
    store = Store(TWO, chain(11), "a", "b", "c")
    store.do("a", [(1,) * at for at in range(6)])
    for at in range(10, 5, -1):
        store.do("b", [(1,) * at])
    return store


class StartTest(Case):
    def test_new_stores(self):
        store = Store(BOOK, START, "a", "b")
        self.assert_equal([store.book, store.start, store.hands(), store.letters()], [BOOK, START, ["a", "b"], []])
        self.assert_equal([store.way_of("a"), store.key_text("b"), store.laid("a")], [Way(BOOK, START), "-", []])
        self.assertEqual([repr(store), len(store), bool(store), store.busy], ["Store(2 hands, 0 letters)", 2, True, False])
        self.assertEqual(Store(BOOK, START, *"abcdefgh").hands(), list("abcdefgh"))
        self.assertEqual([repr(Store(BOOK, START, "abcdefgh"))], ["Store(1 hands, 0 letters)"])

    def test_errors_in_their_order(self):
        for value in NO_STARTS:
            for names in ((), ("a",), ("A", None), tuple("abcdefghi")):
                self.raises("InvalidTerm", [], Store, BOOK, value, *names)
        self.raises("LastHand", [], Store, BOOK, START)
        self.raises("TooMany", [8], Store, BOOK, START, *"abcdefghi")
        self.raises("TooMany", [8], Store, BOOK, START, None, *"aacdefgh")
        for value in NO_NAMES:
            self.raises("InvalidName", [value], Store, BOOK, START, value)
            # Ahead of names that stand twice, also of those ahead.
            self.raises("InvalidName", [value], Store, BOOK, START, "b", "b", value, None)
        self.raises("DuplicateName", ["b"], Store, BOOK, START, "a", "b", "c", "b", "a")
        self.raises("DuplicateName", ["a"], Store, BOOK, START, "a", "b", "a", "b")

    def test_hands_that_are_not_there(self):
        store = busy_store()
        store.drop("b")
        before = store.twin()
        calls = [(store.way_of,), (store.key_text,), (store.laid,), (store.has_letter, None), (store.do, None), (store.do, [(5,)]),
                 (store.take, None), (store.meet, None), (store.meet, "a"), (store.branch, None), (store.branch, "a"), (store.take_out, None),
                 (store.drop,), (store.lacks, None), (store.lacks, "a"), (store.common, None), (store.common, "a")]
        for value in NO_HANDS:
            if not (isinstance(value, str) and value == "a"):
                for call, *told in calls:
                    self.raises("UnknownName", [value], call, value, *told)
                for call in (store.meet, store.lacks, store.common):
                    self.raises("UnknownName", [value], call, "a", value)
                self.assertIs(value in store, False)
        self.assertEqual([store, "a" in store, "c" in store, "b" in store], [before, True, True, False])


class DoingTest(Case):
    def test_the_example(self):
        store = a_store()
        self.assert_equal([store.do("a", [(1,)]), store.do("b", [()])], [0, 1])
        self.assert_equal([store.take("a", 1), store.take("b", 0)], [[1], [0]])
        self.assert_equal([store.key_text("a"), store.key_text("b")], [".+1", ".+1"])
        self.assert_equal(store.letters(), [("-", ((1,),)), ("-", ((),))])
        self.assertEqual(repr(store), "Store(2 hands, 2 letters)")

    def test_works_are_settled(self):
        store = a_store("a")
        self.assert_equal([store.do(hand="a", lot=[(1,), (1,)]), store.do("a", ((),)), store.do("a", [])], [0, 1, 2])
        self.assert_equal(store.letters(), [("-", ((1,),)), ("1", ((),)), (".+1", ())])
        self.assertEqual([store.way_of("a").text(), store.way_of("a").end.text()], [".+1", "pair(pair(o,o),pair(o,o))"])
        self.assertEqual(store.way_of("a"), settled(Way.read(BOOK, START, "1;.")))

    def test_lots_of_the_end_of_the_work(self):
        store = busy_store()
        before = store.twin()
        for value in [value for value in ANY_VALUES if not isinstance(value, (list, tuple))] + [{(): 1}, "1", START]:
            self.raises("InvalidLot", [0], store.do, "a", value)
            self.raises("InvalidLot", [0], store.do, "c", value)
        self.raises("NoStep", [0, ()], store.do, "a", [()])
        self.raises("NoStep", [0, (2,)], store.do, "b", [(), (2,), (3,)])
        self.raises("NoStep", [0, [1]], store.do, "c", [(), (1,), [1]])
        self.raises("NoStep", [0, True], store.do, "c", (True, None))
        self.assertEqual(store, before)

    def test_great_works(self):
        store = Store(TWO, chain(11), "a")
        self.assertEqual(store.do("a", [(1,) * at for at in range(8)]), 0)
        before = store.twin()
        end = store.way_of("a").end
        self.raises("TooGreat", [], store.do, "a", [place for place in end.places() if end.sub(place).word == "two"])
        self.assertEqual([store, len(store.letters())], [before, 1])


class TakingTest(Case):
    def test_letters_are_laid_by_until_their_ground_is_there(self):
        store = a_store("a", "b", "c")
        self.assertEqual([store.do("a", [()]), store.do("a", [(1,)]), store.do("a", [(2,)])], [0, 1, 2])
        self.assert_equal([store.take("b", 2), store.take(hand="b", number=1), store.take("b", 2)], [[], [], []])
        self.assert_equal([store.laid("b"), store.laid(hand="a"), store.key_text("b")], [[1, 2], [], "-"])
        self.assert_equal([store.take("b", 0), store.laid("b"), store.key_text("b")], [[0, 1, 2], [], ".+1"])
        # What a hand has already is taken once more, and brings nothing new.
        self.assert_equal([store.take("b", number) for number in (0, 1, 2)], [[0], [1], [2]])
        self.assert_equal([store.key_text("b"), store.key_text("c")], [".+1", "-"])

    def test_the_least_number_first(self):
        # The letters 1 and 3 wait for 0; 2 waits for 3, and is taken as soon as that was.
        book = Book.read("1 ring -> ring\n1 a -> b\n")
        store = Store(book, Term.read("f(ring,a)"), "a", "b", "c")
        self.assertEqual([store.do("a", [(1,)]), store.do("a", [(1,)]), store.do("a", [(1,)]), store.do("b", [(2,)])], [0, 1, 2, 3])
        self.assertEqual([store.post("2", [(1,)]), store.post("1+2", [(1,)])], [4, 5])
        for number in (2, 5, 4, 1):
            self.assertEqual(store.take("c", number), [])
        self.assertEqual(store.laid("c"), [1, 2, 4, 5])
        self.assertEqual([store.take("c", 3), store.laid("c")], [[3, 4, 1, 2, 5], []])
        self.assertEqual(store.key_text("c"), "1+2;1;1")

    def test_doing_and_meeting_take_what_is_laid_by(self):
        store = a_store("a", "b", "c")
        store.do("a", [()])
        store.do("a", [(1,)])
        for hand in "bc":
            self.assertEqual([store.take(hand, 1), store.laid(hand)], [[], [1]])
        self.assertEqual([store.do("b", [()]), store.laid("b"), store.way_of("b").end.text()], [2, [], "pair(pair(o,o),two(o))"])
        self.assertEqual([store.key_text("b"), store.letters()[2]], [".;1", ("-", ((),))])
        store.branch("c", "d")
        store.do("c", [(1,)])
        self.assert_equal([store.laid("c"), store.meet("c", "a"), store.laid("c"), store.laid("d")], [[1], [1], [], [1]])
        self.assert_equal([store.key_text("c"), store.meet(hand="d", other="d"), store.laid("d")], [".+1", [], [1]])
        self.assert_equal([store.meet("d", "b"), store.key_text("d"), store.meet("d", "c"), store.key_text("d")], [[1], ".;1", [], ".+1"])

    def test_having_letters(self):
        store = busy_store()
        found = {hand: [store.has_letter(hand, number) for number in range(3)] for hand in "abc"}
        self.assert_equal(found, {"a": [True, True, True], "b": [False, False, True], "c": [False, False, False]})
        self.assertIs(store.has_letter(hand="b", number=2), True)
        # An empty lot is there where its ground is.
        store.do("c", [])
        self.assertEqual([store.has_letter(hand, 3) for hand in "abc"], [True, True, True])

    def test_values_that_are_no_letters(self):
        store = busy_store()
        before = store.twin()
        for value in [value for value in ANY_VALUES if value is True or value is False or value not in (0, 1)] + [3, -1, 10 ** 30, "0", [0]]:
            for call in (store.take, store.has_letter):
                self.raises("UnknownLetter", [value], call, "a", value)
        self.raises("UnknownLetter", [0], a_store().take, "a", 0)
        self.raises("UnknownLetter", [0], a_store().has_letter, "a", 0)
        self.assertEqual(store, before)

    def test_great_works(self):
        store = great_store()
        self.assertEqual([store.take("a", number) for number in (3, 2)], [[], []])
        self.assertEqual([store.take("a", 1), store.way_of("a").end.size()], [[1, 2, 3], 64 * 17 + 63])
        before = store.twin()
        self.raises("TooGreat", [], store.take, "a", 4)
        self.raises("TooGreat", [], store.meet, "a", "b")
        self.raises("TooGreat", [], store.meet, "b", "a")
        self.assertEqual([store, store.laid("a")], [before, []])
        self.assertEqual([store.take("a", 5), store.laid("a")], [[], [5]])

    def test_great_works_behind_a_letter_that_is_taken(self):
        store = great_store()
        for number in (4, 3, 2):
            self.assertEqual(store.take("a", number), [])
        store.branch("b", "d")
        store.branch("c", "e")
        self.assertEqual([store.take("e", 1), store.laid("a")], [[1], [2, 3, 4]])
        end = store.way_of("a").end
        lowest = [place for place in end.places() if end.sub(place).text() == "two(o)"]
        before, letters = store.twin(), store.letters()
        # The letters 1 to 3 could be taken, but not the one behind them.
        self.raises("TooGreat", [], store.take, "a", 1)
        self.raises("TooGreat", [], store.meet, "a", "e")
        self.raises("TooGreat", [], store.do, "a", lowest)
        self.raises("TooGreat", [], store.together, ("branch", "c", "f"), ("take", "a", 1))
        self.assertEqual([store, store.laid("a"), store.letters(), store.hands()], [before, [2, 3, 4], letters, list("abcde")])

    def test_joins_that_are_not_fit(self):
        start = Term("e", Term("a"), Term("grow", sized(360)))
        store = Store(LATE, start, "a", "b")
        for lot in ([(1,)], [(1,)], [(1,)], [()]):
            store.do("a", lot)
        store.do("b", [(2,)])
        store.do("b", [(2,)])
        works = [store.way_of("a"), store.way_of("b")]
        self.raises("TooGreat", [], joined, *works)
        self.assertEqual(settled(joined(*works[::-1])).text(), "1+2;1+2;1;.")
        before = store.twin()
        # The settled join would be fit, but the join of the two in this order is not.
        self.raises("TooGreat", [], store.meet, "a", "b")
        self.assertEqual(store, before)
        self.assertEqual([store.meet("b", "a"), store.key_text("b")], [[], "1+2;1+2;1;."])
        # The same holds for taking.
        store.post("2", [(2,)])
        store.post("1+2;2", [])
        self.assertEqual([store.take("a", 6), store.take("b", 6)], [[], [6]])


class HandsTest(Case):
    def test_branches(self):
        store = busy_store()
        self.assertIsNone(store.branch("c", "d"))
        self.assertIsNone(store.branch(hand="a", name="abcdefgh"))
        self.assert_equal([store.hands(), store.laid("d"), store.key_text("abcdefgh")], [["a", "b", "c", "d", "abcdefgh"], [1], ".+1"])
        self.assertEqual([store.take("d", 0), store.laid("d"), store.laid("c")], [[0, 1], [], [1]])

    def test_wrong_branches(self):
        store = Store(BOOK, START, *"abcdefg")
        for value in NO_NAMES:
            self.raises("InvalidName", [value], store.branch, "a", value)
        for name in "abcdefg":
            self.raises("DuplicateName", [name], store.branch, "a", name)
        store.branch("a", "h")
        before = store.twin()
        self.raises("InvalidName", [5], store.branch, "a", 5)
        self.raises("DuplicateName", ["h"], store.branch, "a", "h")
        self.raises("TooMany", [8], store.branch, "a", "i")
        self.raises("UnknownName", ["i"], store.branch, "i", None)
        self.assertEqual(store, before)

    def test_dropping(self):
        store = busy_store()
        self.assertIsNone(store.drop("a"))
        self.assertIsNone(store.drop(hand="c"))
        self.assert_equal([store.hands(), len(store.letters()), store.key_text("b")], [["b"], 3, "1"])
        self.raises("LastHand", [], store.drop, "b")
        self.raises("UnknownName", ["a"], store.drop, "a")
        self.assertEqual([repr(store), store.branch("b", "a"), store.drop("b"), store.hands()], ["Store(1 hands, 3 letters)", None, None, ["a"]])

    def test_taking_out(self):
        store = busy_store()
        store.branch("a", "d")
        self.assertIsNone(store.take_out("a", (1,)))
        self.assertIsNone(store.take_out(hand="b", place=()))
        self.assertEqual([store.key_text(hand) for hand in "abcd"], [".", "1", "-", ".+1"])
        self.assertEqual([store.laid("c"), store.letters()], [[1], busy_store().letters()])
        store.take_out("c", ())
        self.assertEqual([store.laid("c"), store.take("a", 1), store.key_text("a")], [[1], [1], ".+1"])

    def test_wrong_places_to_take_out(self):
        store = busy_store()
        before = store.twin()
        for value in ANY_VALUES + [(1, 1), (2,), [1], [()], "1"]:
            if not (isinstance(value, tuple) and value in ((), (1,))) or repr(value) == "(True,)":
                self.raises("NoStep", [0, value], store.take_out, "a", value)
        self.assertEqual(store, before)
        striking = Store(TWO, START, "a")
        for value in ((), (5,), None):
            self.raises("Strikes", [1], striking.take_out, "a", value)
            self.raises("Strikes", [1], striking.common, "a", "a")

    def test_works_that_are_great_without_a_step(self):
        book = Book.read("1 lift(X) -> " + "s(" * 22 + "X" + ")" * 22 + "\n1 drop(" + "s(" * 22 + "X" + ")" * 22 + ") -> X\n")
        start = nested("lift", 4, Term("drop", nested("s", 22, Term("o"))))
        store = Store(book, start, "a", "b")
        store.do("a", [(1,) * at for at in range(5)])
        self.assertEqual(store.way_of("a").end.levels, 89)
        before = store.twin()
        self.raises("TooGreat", [], store.take_out, "a", (1,) * 4)
        self.raises("TooGreat", [], store.together, ("branch", "a", "c"), ("out", "c", (1,) * 4))
        self.assertEqual(store, before)
        self.assertEqual([store.take_out("a", (1,)), store.way_of("a").end.levels], [None, 68])


class LettersTest(Case):
    def test_posting(self):
        store = a_store()
        self.assert_equal([store.post("-", [(1,)]), store.post(ground="1", lot=((), ())), store.post(".+1", [])], [0, 1, 2])
        self.assert_equal(store.letters(), [("-", ((1,),)), ("1", ((),)), (".+1", ())])
        self.assertEqual([store.key_text("a"), store.laid("a"), store.take("a", 1), store.take("a", 0)], ["-", [], [], [0, 1]])
        self.assert_equal([store.post(".", [(2,), (1,), (2,)]), store.letters()[3]], [3, (".", ((1,), (2,)))])

    def test_grounds_that_are_no_texts(self):
        store = a_store()
        rows = [("", 0), (";", 0), ("1;", 2), (".;1+", 4), ("1.", 2), ("1..", 2), ("x", 0), ("-;1", 1), ("1 ", 1), ("01", 1), ("5", 0), ("1,", 1), ("1\n", 1)]
        for text, at in rows:
            for lot in ([(1,)], None, [(5,)]):
                self.raises("InvalidText", [0, at], store.post, text, lot)
        for value in [value for value in ANY_VALUES if not isinstance(value, str)] + [Way(BOOK, START), [((),)]]:
            self.raises("InvalidText", [0, 0], store.post, value, None)
        self.assertEqual(store, a_store())

    def test_errors_in_their_order(self):
        store = a_store()
        # As for ways, with the indexes of their lots.
        self.raises("NoStep", [0, (2,)], store.post, "2", None)
        self.raises("NoStep", [1, (3,)], store.post, ".;3+1", None)
        self.raises("NoStep", [1, ()], store.post, ".;.", None)
        # Each of these is a way, but none is settled, or has the text of one.
        for text in ("1;.", ".;1;2", ".;1+2", "0", "1;0", "0;1", "1+.", ".+.", "1+1", ".;2+1", ".+1;0"):
            for lot in ([(1,)], None, [(5,)]):
                self.raises("NotKey", [], store.post, text, lot)
        for value in (None, 5, "1", START):
            self.raises("InvalidLot", [0], store.post, "1", value)
        self.raises("NoStep", [0, (1,)], store.post, "1", [(), (1,), (2,)])
        self.raises("NoStep", [0, [1]], store.post, ".", ([1],))
        self.assertEqual(store, a_store())
        store = Store(TWO, chain(11), "a")
        lots = [[(1,) * at for at in range(11)], [(1,) * at for at in range(8)]]
        self.raises("TooGreat", [], store.post, "-", lots[0])
        self.raises("TooGreat", [], store.post, key_by_words([sorted(lots[0])]), None)
        self.raises("TooGreat", [], store.post, key_by_words([[(1,) * 10], sorted(lots[0][:10])]), None)
        self.assertEqual([store.post("-", lots[1]), store.letters()], [0, [("-", tuple(lots[1]))]])

    def test_what_hands_lack_and_have_in_common(self):
        store = busy_store()
        self.assertEqual([store.lacks("a", "b").text(), store.lacks("b", "a").text(), store.lacks(hand="c", other="a").text()], ["0", ".", ".+1"])
        self.assertEqual(store.lacks("b", "a"), left(store.way_of("a"), store.way_of("b")))
        self.assertEqual([store.common("a", "b").text(), store.common(hand="c", other="a").text(), store.common("a", "a").text()], ["1", "-", ".+1"])
        self.assertEqual(store.common("a", "b"), common_past(store.way_of("a"), store.way_of("b")))
        store = great_store()
        self.raises("TooGreat", [], store.lacks, "a", "b")
        self.raises("Strikes", [1], store.common, "a", "b")


class TogetherTest(Case):
    def test_all_deeds(self):
        store = a_store()
        found = store.together(("do", "a", [()]), ("do", "a", ((2,), (1,))), ("take", "b", 1), ("branch", "b", "c"), ("take", "c", 0), ("meet", "b", "c"),
                               ("out", "b", (1,)), ("drop", "a"), ("post", ".", []), ("meet", "b", "b"))
        self.assert_equal(found, [0, 1, [], None, [0, 1], [1], None, None, 2, []])
        self.assert_equal(told_by(store), ([("b", ".", []), ("c", ".+1", [])], [("-", ((),)), (".", ((1,), (2,))), (".", ())]))
        self.assert_equal(store.together(), [])

    def test_wrong_deeds_come_first(self):
        store = busy_store()
        before = store.twin()
        wrong = ANY_VALUES + [("do",), ("do", "a"), ("do", "a", [], 1), ("take", "a"), ("meet", "a"), ("branch", "a"), ("out", "a"), ("drop",), ("drop", "a", "b"),
                              ("post", "-"), ("twin", "a"), ("laid", "a"), ("DO", "a", []), (["do"], "a", []), ("take_out", "a", ()), ["do", "a", []],
                              ("", "a", ()), (None, "a", ()), ("do ", "a", ()), ((), (), ()), ("busy",), ("book", "a", "")]
        for value in wrong:
            self.raises("InvalidDeed", [0], store.together, value)
            self.raises("InvalidDeed", [2], store.together, ("drop", "x"), ("do", "a", None), value, None)
            self.assertIs(store.busy, False)
        self.assertEqual(store, before)

    def test_all_or_none(self):
        store = busy_store()
        before = store.twin()
        errors = ((("UnknownName", ["x"]), ("drop", "x")), (("InvalidLot", [0]), ("do", "a", None)), (("NoStep", [0, (4,)]), ("do", "a", [(4,)])),
                  (("UnknownLetter", [9]), ("take", "a", 9)), (("UnknownName", [5]), ("meet", "a", 5)), (("InvalidName", [5]), ("branch", "a", 5)),
                  (("DuplicateName", ["d"]), ("branch", "a", "d")), (("NoStep", [0, None]), ("out", "a", None)), (("NotKey", []), ("post", "0", [])),
                  (("InvalidText", [0, 0]), ("post", None, [])))
        for (name, told), deed in errors:
            self.raises(name, told, store.together, ("branch", "a", "d"), ("do", "c", [()]), ("take", "b", 0), ("drop", "a"), ("branch", "d", "a"), deed, ("drop", "y"))
            self.assertEqual([store, store.busy], [before, False])
        self.raises("LastHand", [], store.together, ("drop", "a"), ("drop", "b"), ("drop", "c"))
        self.assertEqual([store, store.hands()], [before, ["a", "b", "c"]])
        self.assert_equal([store.together(("drop", "a"), ("drop", "b")), store.hands()], [[None, None], ["c"]])

    def test_each_deed_does_what_its_method_does(self):
        store, other = busy_store(), busy_store()
        rows = ((("do", "c", [()]), store.do), (("take", "c", 2), store.take), (("meet", "b", "a"), store.meet), (("branch", "b", "x"), store.branch),
                (("out", "x", ()), store.take_out), (("post", "-", [()]), store.post), (("drop", "b"), store.drop))
        for deed, method in rows:
            self.assert_equal([method(*deed[1:])], other.together(deed))
            self.assertEqual([store, told_by(store)], [other, told_by(other)])

    def test_busy_while_deeds_are_done(self):
        store = a_store()
        seen = []

        class Lot(list):
            """A lot that looks whether the store is busy when it is gone through."""

            def __iter__(self):
                seen.append(store.busy)
                return list.__iter__(self)

        class Broken(list):
            """A lot that cannot be gone through."""

            def __iter__(self):
                raise RuntimeError

        store.together(("do", "a", Lot([()])))
        self.assertEqual([set(seen), store.busy], [{True}, False])
        store.do("b", Lot([()]))
        self.assertEqual([seen[-1], store.twin().busy], [False, False])
        before = store.twin()
        with self.assertRaises(RuntimeError):
            store.together(("do", "a", [(1,)]), ("do", "a", Broken()))
        self.assertEqual([store.busy, store], [False, before])
        with self.assertRaises(AttributeError):
            store.busy = True

    def test_twins_and_equal_stores(self):
        store = busy_store()
        twin = store.twin()
        self.assertEqual([store, told_by(twin), twin.book, twin.start], [twin, told_by(store), BOOK, START])
        twin.do("b", [()])
        self.assertEqual([store == twin, store == busy_store(), told_by(store)], [False, True, told_by(busy_store())])
        store.drop("a")
        self.assertEqual([len(store), len(twin)], [2, 3])
        # Other books, starts, names, orders of names, letters, works, and letters laid by.
        plain = a_store()
        others = [Store(TWO, START, "a", "b"), Store(BOOK, Term("two", START), "a", "b"), a_store("a"), a_store("b", "a"), a_store("a", "c")]
        for deeds in ((("post", "-", []),), (("do", "a", []),), (("do", "a", [()]),)):
            others.append(a_store())
            others[-1].together(*deeds)
        laid = [a_store(), a_store()]
        for one in laid:
            one.together(("post", ".", [(1,)]))
        laid[0].take("a", 0)
        self.assertEqual([laid[0] == laid[1], laid[0].key_text("a"), laid[1].key_text("a")], [False, "-", "-"])
        for other in others + laid + ANY_VALUES:
            self.assertIs(plain == other, False)
        self.assertIs(plain == Store(Book.read(BOOK.text()), Term.read(START.text()), "a", "b"), True)
        works = [a_store(), a_store()]
        for one, deeds in zip(works, ((("do", "a", [()]), ("do", "b", [()])), (("do", "a", [()]), ("do", "a", [])))):
            one.together(("post", "-", [()]), *deeds)
        self.assertNotEqual(works[0], works[1])

    def test_lists_that_are_told_are_new(self):
        store = busy_store()
        before = told_by(store)
        lot = [(), (1,)]
        store.post("-", lot)
        lot.clear()
        for told in (store.hands(), store.letters(), store.laid("c"), store.way_of("a").lots(), store.take("c", 2)):
            told.clear()
        self.assertEqual(told_by(store)[0], before[0][:2] + [("c", "1", [1])])
        self.assertEqual(store.letters(), before[1] + [("-", ((), (1,)))])


class ByWordsTest(Case):
    def some_stores(self, many, seed):
        """Stores with their models by the words."""
        dice = random.Random(seed)
        for book, start, steps in cases(many, seed, most_steps=4, most_size=14):
            names = ("a", "b", "c")[:dice.randint(1, 3)]
            yield dice, Store(book, start, *names), StoreByWords(book, start, *names)
        for at in range(many // 2):
            book, text = dice.choice(((BOOK, "f(two(two(o)),two(o))"), (EVENS[1], "swap(swap(pair(swap(pair(o,s(o))),o)))"),
                                      (EVENS[2], "add(s(n),add(n,s(o)))"), (MILD[0], "two(two(o))")))
            yield dice, Store(book, Term.read(text), "a", "b"), StoreByWords(book, Term.read(text), "a", "b")

    def test_drawn_deeds(self):
        met = {}
        for dice, store, model in self.some_stores(120, 2601):
            for _ in range(9):
                deed = random_deed(dice, model)
                if deed is None or max([model.end(lots).size() for lots in model.works.values()]) > 40:
                    continue
                wanted = getattr(model, deed[0])(*deed[1:])
                told = (deed[0], key_by_words(deed[1]), deed[2]) if deed[0] == "post" else deed
                self.assert_equal(store.together(told), [wanted])
                self.assert_equal(told_by(store), model.told())
                met[deed[0]] = met.get(deed[0], 0) + 1
                self.assert_told(dice, store, model)
        self.assertGreater(min(met.values()), 6)

    def assert_told(self, dice, store, model):
        """What a store tells of two hands and a letter is as the words say."""
        one, other = dice.choice(list(model.works)), dice.choice(list(model.works))
        self.assert_equal(store.lacks(one, other).lots(), model.lacks(one, other))
        if model.book.first_striking() is None:
            self.assert_equal(store.common(one, other).lots(), model.common(one, other))
        if model.letters:
            number = dice.randrange(len(model.letters))
            self.assertIs(store.has_letter(one, number), model.has_letter(one, number))
        self.assertEqual(store.key_text(one), key_of(store.way_of(one)))

    def test_a_letter_that_a_hand_has_brings_nothing_new(self):
        met = 0
        for dice, store, model in self.some_stores(40, 2602):
            self.do_some(dice, store, model)
            for hand in store.hands():
                for number in range(len(store.letters())):
                    if store.has_letter(hand, number):
                        before = store.key_text(hand)
                        self.assertEqual([store.take(hand, number)[0], store.key_text(hand)], [number, before])
                        met += 1
        self.assertGreater(met, 100)

    def do_some(self, dice, store, model, many=5):
        """Hands do some lots."""
        for _ in range(many):
            hand = dice.choice(store.hands())
            deed = ("do", hand, dice.sample(model.steps(hand), min(1, len(model.steps(hand)))))
            if model.end(model.works[hand]).size() < 30:
                store.together(deed)
                model.do(*deed[1:])

    def test_all_hands_that_have_taken_each_letter_have_the_same_key(self):
        met = 0
        for dice, store, model in self.some_stores(60, 2603):
            self.do_some(dice, store, model)
            everything = joined(*[store.way_of(hand) for hand in store.hands()])
            if everything.end.size() > 200:
                continue
            for hand in store.hands():
                numbers = list(range(len(store.letters()))) * dice.choice((1, 1, 2))
                dice.shuffle(numbers)
                for number in numbers:
                    store.take(hand, number)
            self.assertEqual([store.laid(hand) for hand in store.hands()], [[]] * len(store))
            self.assertEqual({store.key_text(hand) for hand in store.hands()}, {key_of(everything)})
            self.assertTrue(all(within(store.way_of(hand), everything) for hand in store.hands()))
            met += len(store) > 1
        self.assertGreater(met, 30)

    def test_eight_hands(self):
        store = Store(BOOK, Term.read("two(two(two(o)))"), *"abcdefgh")
        model = StoreByWords(store.book, store.start, *"abcdefgh")
        dice = random.Random(7)
        for hand in "abcdefgh":
            deed = ("do", hand, [dice.choice(model.steps(hand))])
            self.assertEqual(store.do(*deed[1:]), model.do(*deed[1:]))
        for _ in range(30):
            deed = ("take", dice.choice("abcdefgh"), dice.randrange(8))
            self.assertEqual(store.take(*deed[1:]), model.take(*deed[1:]))
        self.assert_equal(told_by(store), model.told())


if __name__ == "__main__":
    unittest.main()
