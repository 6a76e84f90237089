"""Benches: deeds with a history, and lines that are answered."""

import random
import unittest

from remainways import errors
from remainways.bench import Bench
from remainways.books import Book
from remainways.needs import needed
from remainways.nextlook import next_place
from remainways.places import place_text
from remainways.remains import within
from remainways.rests import full_layers
from remainways.stores import Store
from remainways.terms import Term
from remainways.why import why
from tests.helper import ANY_VALUES, BOOKS, Case, sized
from tests.storewords import told_by
from tests.test_looks import ROUND
from tests.test_stores import NO_NAMES
from tests.waywords import chain

TEXT = "1 two(X) -> pair(X,X)\n"
SUMS = BOOKS[3].text()
RINGS = "1 a -> b\n1 b -> c\n1 c -> b\n1 up(X) -> up(s(X))\n"
# A doer beneath the top of a left side.
UNSPLIT = "1 f(g(s(X))) -> X\n1 g(o) -> o\n"
FIRST = (("book", "k", TEXT), ("store", "s", "k", "two(two(o))", "a"))
HANDS = (("at", "s", ("do", "a", [()])), ("at", "s", ("branch", "a", "b")), ("at", "s", ("do", "b", ((2,), (1,)))))
WRONG = ANY_VALUES + [
    ("book",), ("book", "k"), ("book", "k", TEXT, 1), ("store", "s", "k", "o"), ("store", "s", "k", "o", "a", "b"), ("at", "s"), ("at", "s", ("drop", "a"), 1),
    ("close",), ("close", "s", "s"), ("Book", "k", TEXT), ("undo",), ("at", "s", ["drop", "a"]), ("at", "s", None), ("at", "s", ()), ("at", "s", ("drop",)),
    ("at", "s", ("do", "a")), ("at", "s", ("book", "k", TEXT)), ("at", "s", (["do"], "a", [])), ("at", "s", ("twin", "a")), ("at", "s", "drop"), ["close", "s"],
    (["close"], "s"), (None, "s"), ("", "s"), ((),), ("do", "a", [()]), ("at", "s", ("at", "s", ("drop", "a"))),
]


def a_bench(*calls):
    """A bench with a book and a store that did these calls."""
    bench = Bench()
    for call in (FIRST,) + calls:
        bench.do(*call)
    return bench


def told_of(bench):
    """All that a bench keeps, without history."""
    return ([(name, bench.book_named(name).text()) for name in bench.books()],
            [(name, told_by(bench.store_named(name)), bench.store_named(name).start.text()) for name in bench.stores()])


class DeedsTest(Case):
    def test_new_benches(self):
        bench = Bench()
        self.assert_equal([bench.books(), bench.stores(), bench.history(), bench.journal(), bench.log(), bench.rounds], [[], [], (0, 0), [], [], 60])
        self.assertEqual([repr(bench), len(bench), bool(bench), bench.busy, bench == Bench()], ["Bench(0 books, 0 stores)", 0, True, False, True])
        with self.assertRaises(TypeError):
            Bench(1)

    def test_ordinary_deeds(self):
        bench = Bench()
        self.assert_equal(bench.do(*FIRST), [None, None])
        self.assert_equal(bench.do(*HANDS), [0, None, 1])
        self.assert_equal(bench.do(("at", "s", ("take", "a", 1)), ("at", "s", ("meet", "a", "b")), ("at", "s", ("out", "b", (1,))), ("at", "s", ("post", "-", [(1,)])),
                                   ("at", "s", ("drop", "b"))), [[1], [], None, 2, None])
        self.assert_equal([bench.books(), bench.stores(), len(bench), repr(bench)], [["k"], ["s"], 1, "Bench(1 books, 1 stores)"])
        self.assert_equal(told_of(bench), ([("k", TEXT)], [("s", ([("a", ".+1", [])], [("-", ((),)), (".", ((1,), (2,))), ("-", ((1,),))]), "two(two(o))")]))
        self.assert_equal(bench.do(("close", "s")), [None])
        self.assert_equal([bench.stores(), len(bench), repr(bench), bench.history()], [[], 0, "Bench(1 books, 0 stores)", (4, 0)])

    def test_names_in_the_order_in_which_they_came(self):
        bench = Bench()
        bench.do(("book", "b", ""), ("book", "a", TEXT), ("store", "z", "a", "o", "h"), ("store", "a", "b", "o", "h"), ("store", "b", "a", "o", "h"))
        self.assert_equal([bench.books(), bench.stores(), bench.say("books"), bench.say("stores")], [["b", "a"], ["z", "a", "b"], "b a", "z a b"])
        bench.do(("at", "z", ("branch", "h", "i")), ("close", "a"))
        bench.do(("store", "a", "a", "two(o)", "h"))
        self.assert_equal([bench.stores(), bench.store_named("a").start.text()], [["z", "b", "a"], "two(o)"])
        bench.undo()
        bench.undo()
        self.assert_equal([bench.stores(), bench.store_named("a").start.text(), repr(bench)], [["z", "a", "b"], "o", "Bench(2 books, 3 stores)"])

    def test_wrong_deeds_come_first(self):
        bench = a_bench(HANDS)
        before = bench.twin()
        for value in WRONG:
            for call in (bench.do, bench.tried):
                self.raises("InvalidDeed", [0], call, value)
                self.raises("InvalidDeed", [2], call, ("book", "k", None), ("close", "x"), value, None)
            self.raises("InvalidDeed", [1], Bench.replay, [FIRST, (("close", "s"), value)])
        self.assertEqual([bench, bench.history(), bench.busy], [before, (2, 0), False])

    def test_errors_of_books(self):
        bench = a_bench()
        for value in NO_NAMES:
            self.raises("InvalidName", [value], bench.do, ("book", value, None))
        self.raises("DuplicateName", ["k"], bench.do, ("book", "k", "x"))
        for value in (None, 5, (), Book()):
            self.raises("InvalidText", [0, 0], bench.do, ("book", "b", value))
        self.raises("InvalidText", [1, 3], bench.do, ("book", "b", TEXT + "1 f"))
        self.raises("LooseHole", ["Y"], bench.do, ("book", "b", "1 f(X) -> Y\n"))
        self.raises("TooMany", [24], bench.do, ("book", "b", "".join(f"1 f{first}{second} -> o\n" for first in "abcde" for second in "vwxyz")))
        self.raises("Overlaps", [0, 1, (), Term.read("f(a)")], bench.do, ("book", "b", "1 f(X) -> o\n1 f(a) -> o\n"))
        self.assertEqual(bench, a_bench())
        self.assert_equal(bench.do(("book", "b", ""), ("book", "s", TEXT)), [None, None])

    def test_errors_of_stores(self):
        bench = a_bench()
        for value in NO_NAMES:
            self.raises("InvalidName", [value], bench.do, ("store", value, None, None, None))
        self.raises("DuplicateName", ["s"], bench.do, ("store", "s", "x", None, None))
        for value in NO_NAMES + ["s", "x"]:
            self.raises("UnknownName", [value], bench.do, ("store", "t", value, "f(", None))
        for value in (None, 5, (), Term("o")):
            self.raises("InvalidText", [0, 0], bench.do, ("store", "t", "k", value, None))
        self.raises("InvalidText", [0, 2], bench.do, ("store", "t", "k", "f(", None))
        self.raises("TooGreat", [], bench.do, ("store", "t", "k", sized(2001).text(), None))
        for text in ("X", "_", "two(X)"):
            self.raises("InvalidTerm", [], bench.do, ("store", "t", "k", text, None))
        for value in NO_NAMES:
            self.raises("InvalidName", [value], bench.do, ("store", "t", "k", "o", value))
        self.assertEqual(bench, a_bench())
        self.assert_equal(bench.do(("store", "k", "k", "o", "k")), [None])

    def test_errors_of_deeds_of_stores(self):
        bench = a_bench(HANDS)
        before = bench.twin()
        for value in NO_NAMES + ["k", "x"]:
            self.raises("UnknownName", [value], bench.do, ("at", value, ("do", "x", None)))
            self.raises("UnknownName", [value], bench.do, ("close", value))
            for call in (bench.book_named, bench.store_named):
                if value != "k":
                    self.raises("UnknownName", [value], call, value)
        for (name, told), deed in ((("UnknownName", ["x"]), ("do", "x", None)), (("InvalidLot", [0]), ("do", "a", None)), (("NoStep", [0, ()]), ("do", "a", [()])),
                                   (("UnknownLetter", [2]), ("take", "a", 2)), (("UnknownName", [None]), ("meet", "a", None)), (("InvalidName", [1]), ("branch", "a", 1)),
                                   (("DuplicateName", ["b"]), ("branch", "a", "b")), (("NoStep", [0, [1]]), ("out", "a", [1])), (("NotKey", []), ("post", "0", None)),
                                   (("InvalidText", [0, 1]), ("post", "1x", None))):
            self.raises(name, told, bench.do, ("book", "x", ""), ("at", "s", ("branch", "a", "d")), ("at", "s", deed), ("close", "y"))
            self.assertEqual([bench, bench.history(), bench.books(), bench.busy], [before, (2, 0), ["k"], False])
        self.raises("LastHand", [], bench.do, ("at", "s", ("drop", "a")), ("at", "s", ("drop", "b")))
        self.assertEqual([bench, told_of(bench)], [before, told_of(before)])

    def test_busy_while_deeds_are_done(self):
        bench = a_bench()
        seen = []

        class Lot(list):
            """A lot that looks whether the bench is busy when it is gone through."""

            def __iter__(self):
                seen.append(bench.busy)
                return list.__iter__(self)

        class Broken(list):
            """A lot that cannot be gone through."""

            def __iter__(self):
                raise RuntimeError

        bench.do(("at", "s", ("do", "a", Lot([()]))))
        self.assertEqual([seen[0], bench.busy], [True, False])
        before = bench.twin()
        with self.assertRaises(RuntimeError):
            bench.do(("at", "s", ("do", "a", [(1,)])), ("at", "s", ("do", "a", Broken())))
        self.assertEqual([bench.busy, bench, bench.history(), told_of(bench)], [False, before, (2, 0), told_of(before)])
        with self.assertRaises(AttributeError):
            bench.busy = True


class HistoryTest(Case):
    def test_undo_and_redo(self):
        bench = a_bench()
        states = [Bench(), a_bench(), a_bench(HANDS)]
        self.assertEqual([bench.history(), bench.do(*HANDS), bench.history()], [(1, 0), [0, None, 1], (2, 0)])
        for many in (1, 0):
            self.assertIsNone(bench.undo())
            self.assertEqual([bench, bench.history(), len(bench.journal())], [states[many], (many, 2 - many), many])
        self.raises("NoHistory", [], bench.undo)
        for many in (1, 2):
            self.assertIsNone(bench.redo())
            self.assertEqual([bench, bench.history(), told_of(bench)], [states[many], (many, 2 - many), told_of(states[many])])
        self.raises("NoHistory", [], bench.redo)
        self.raises("NoHistory", [], Bench().undo)
        self.raises("NoHistory", [], Bench().redo)

    def test_another_step_ends_what_can_be_redone(self):
        bench = a_bench(HANDS)
        bench.undo()
        self.assert_equal([bench.do(), bench.history()], [[], (1, 1)])
        self.raises("InvalidDeed", [0], bench.do, None)
        self.raises("UnknownName", ["x"], bench.do, ("book", "x", ""), ("close", "x"))
        self.assert_equal([bench.history(), bench.tried(("close", "s")).history(), bench.history()], [(1, 1), (0, 0), (1, 1)])
        bench.rounds = 5
        bench.say("books")
        self.assertEqual(bench.history(), (1, 1))
        bench.do(("close", "s"))
        self.assert_equal([bench.history(), bench.journal()[1:]], [(2, 0), [(("close", "s"),)]])
        self.raises("NoHistory", [], bench.redo)
        bench.undo()
        self.assertEqual([bench, bench.history()], [a_bench(), (1, 1)])

    def test_a_call_that_changes_nothing_is_a_step(self):
        bench = a_bench(HANDS)
        for many in (3, 4):
            bench.do(("at", "s", ("take", "b", 0)))
            self.assertEqual([bench.history(), bench], [(many, 0), a_bench(HANDS)])

    def test_the_rounds_are_no_part_of_the_history(self):
        bench = a_bench(HANDS)
        bench.set_rounds(7)
        bench.undo()
        self.assertEqual([bench.rounds, bench == a_bench(), bench.twin().rounds, bench.tried().rounds, Bench.replay(bench.journal()).rounds], [7, True, 7, 7, 60])
        bench.rounds = 0
        bench.redo()
        self.assertEqual([bench.rounds, bench == a_bench(HANDS), bench.history()], [0, True, (2, 0)])

    def test_wrong_rounds(self):
        bench = a_bench()
        for value in [value for value in ANY_VALUES if value is True or value not in (0, 1, 5)] + [False, -5, 201, 10 ** 9, "60"]:
            self.raises("InvalidNumber", [value], bench.set_rounds, value)
            self.raises("InvalidNumber", [value], setattr, bench, "rounds", value)
        for value in (0, 1, 199, 200):
            self.assertIsNone(bench.set_rounds(rounds=value))
            self.assertEqual(bench.rounds, value)

    def test_journals(self):
        bench = a_bench()
        lots = [[(), (), ()], [(2,), (1,)]]
        bench.do(("at", "s", ("do", "a", lots[0])), ("at", "s", ("do", "a", lots[1])), ("at", "s", ("post", ".", ((2,), (1,), (2,)))), ("at", "s", ("out", "a", ())))
        lots[0].clear()
        lots[1].clear()
        wanted = [FIRST, (("at", "s", ("do", "a", ((),))), ("at", "s", ("do", "a", ((1,), (2,)))), ("at", "s", ("post", ".", ((1,), (2,)))), ("at", "s", ("out", "a", ())))]
        self.assert_equal(bench.journal(), wanted)
        bench.do(("at", "s", ("take", "a", 0)), ("at", "s", ("meet", "a", "a")), ("at", "s", ("branch", "a", "c")), ("at", "s", ("drop", "a")), ("close", "s"))
        self.assert_equal(bench.journal()[2], (("at", "s", ("take", "a", 0)), ("at", "s", ("meet", "a", "a")), ("at", "s", ("branch", "a", "c")),
                                               ("at", "s", ("drop", "a")), ("close", "s")))
        bench.undo()
        self.assert_equal(bench.journal(), wanted)
        bench.journal().clear()
        self.assert_equal([bench.journal(), Bench.replay(calls=tuple(bench.journal())) == bench], [wanted, True])

    def test_lots_of_journals_are_ascending(self):
        start = Term("f", *[Term.read("f(two(o),two(o),two(o),two(o))")] * 4)
        lot = [(one, other) for one in range(1, 5) for other in range(1, 5)]
        dice = random.Random(9)
        for _ in range(5):
            drawn = dice.sample(lot, 12)
            bench = Bench()
            bench.do(("book", "k", TEXT), ("store", "s", "k", start.text(), "a"))
            bench.do(("at", "s", ("post", "-", drawn)), ("at", "s", ("do", "a", drawn + drawn[:3])))
            wanted = tuple(sorted(drawn))
            self.assert_equal(bench.journal()[1], (("at", "s", ("post", "-", wanted)), ("at", "s", ("do", "a", wanted))))

    def test_replay(self):
        bench = a_bench(HANDS)
        found = Bench.replay(bench.journal())
        self.assertEqual([found, found.history(), found.journal(), found.log(), told_of(found)], [bench, (2, 0), bench.journal(), [], told_of(bench)])
        self.assertEqual([Bench.replay([]), Bench.replay(()).history()], [Bench(), (0, 0)])
        self.assertEqual(Bench.replay([FIRST, (), list(HANDS)]).history(), (2, 0))
        self.raises("DuplicateName", ["k"], Bench.replay, [FIRST, FIRST])
        self.raises("UnknownName", ["s"], Bench.replay, [HANDS])
        # What a later call lacks does not matter ahead of an error of an earlier one.
        self.raises("UnknownName", ["x"], Bench.replay, [FIRST, (("close", "x"),), (None,)])

    def test_tried(self):
        bench = a_bench()
        bench.say("books")
        bench.rounds = 3
        before = bench.twin()
        found = bench.tried(*HANDS)
        self.assertEqual([found, found.history(), found.journal(), found.log(), found.rounds], [a_bench(HANDS), (0, 0), [], [], 3])
        self.assertEqual([bench, bench.history(), bench.log(), bench.busy, told_of(bench)], [before, (1, 0), before.log(), False, told_of(before)])
        self.raises("NoHistory", [], found.undo)
        self.raises("NoHistory", [], found.redo)
        found.do(("close", "s"))
        found.undo()
        self.assertEqual([found == a_bench(HANDS), bench.tried() == bench, bench.tried().history(), len(bench.tried(("close", "s")))], [True, True, (0, 0), 0])
        for deeds in ((("close", "x"),), (("close", "s"), ("close", "s"))):
            self.raises("UnknownName", [deeds[-1][1]], bench.tried, *deeds)
        self.assertEqual([bench, bench.history()], [before, (1, 0)])

    def test_twins_and_equal_benches(self):
        bench = a_bench(HANDS)
        bench.undo()
        bench.say("stores")
        bench.rounds = 9
        twin = bench.twin()
        self.assertEqual([twin, twin.history(), twin.journal(), twin.log(), twin.rounds], [bench, (1, 1), bench.journal(), [("stores", "s")], 9])
        twin.redo()
        twin.say("books")
        twin.do(("close", "s"))
        twin.rounds = 1
        self.assertEqual([bench, bench.history(), bench.log(), bench.rounds], [a_bench(), (1, 1), [("stores", "s")], 9])
        bench.redo()
        self.assertEqual([bench, twin == bench], [a_bench(HANDS), False])
        # History, rounds and log do not matter for this; names, their order, books and stores do.
        self.assertEqual(a_bench(HANDS, (("at", "s", ("take", "a", 0)),)), a_bench(HANDS))
        two = (("book", "a", ""), ("book", "b", TEXT))
        rows = [(), two[:1], two, two[::-1], (("book", "a", TEXT), ("book", "b", "")), two + (("store", "s", "a", "o", "h"),), two + (("store", "s", "b", "o", "h"),),
                two + (("store", "t", "a", "o", "h"),), two + (("store", "s", "a", "o", "h"), ("store", "t", "a", "o", "h")),
                two + (("store", "t", "a", "o", "h"), ("store", "s", "a", "o", "h")), two + (("store", "s", "a", "a", "h"),)]
        for at, one in enumerate(rows):
            for index, other in enumerate(rows):
                self.assertIs(Bench.replay([one]) == Bench.replay([other]), at == index)
        for value in ANY_VALUES + [Store(Book(), Term("o"), "a")]:
            self.assertIs(Bench() == value, False)

    def test_stores_that_are_told_are_twins(self):
        bench = a_bench(HANDS)
        store = bench.store_named("s")
        store.do("a", [(1,)])
        store.drop("b")
        self.assertEqual([bench, bench.store_named(name="s") == store, bench.book_named(name="k")], [a_bench(HANDS), False, Book.read(TEXT)])
        states = told_of(bench)
        bench.do(("at", "s", ("do", "a", [(2,)])))
        bench.undo()
        self.assert_equal(told_of(bench), states)

    def test_drawn_calls(self):
        dice = random.Random(5)
        for _ in range(25):
            bench, calls, at = Bench(), [], 0
            for _ in range(14):
                word = dice.choice(("call", "call", "call", "undo", "redo", "wrong", "empty"))
                if word == "call":
                    call = self.random_call(dice, bench)
                    wanted = Bench.replay(calls[:at] + [call])
                    self.assertEqual(bench.tried(*call), wanted)
                    bench.do(*call)
                    calls, at = calls[:at] + [call], at + 1
                    self.assertEqual(bench, wanted)
                elif word == "undo" and at > 0:
                    bench.undo()
                    at -= 1
                elif word == "redo" and at < len(calls):
                    bench.redo()
                    at += 1
                elif word == "wrong":
                    with self.assertRaises((errors.WorkError, errors.Missing)):
                        bench.do(*self.random_call(dice, bench), ("close", "x"))
                else:
                    bench.do()
                self.assertEqual([bench.history(), len(bench.journal())], [(at, len(calls) - at), at])
                self.assertEqual([Bench.replay(bench.journal()), told_of(Bench.replay(calls[:at]))], [bench, told_of(bench)])

    def random_call(self, dice, bench):
        """Some deeds that can be done together."""
        tried, deeds = bench.tried(), []
        for _ in range(dice.randint(1, 3)):
            fresh = dice.choice([name for name in "abcdefghijklmnopqrstuvw" if name not in tried.books() + tried.stores()])
            draws = [("book", fresh, dice.choice((TEXT, SUMS, "")))]
            if tried.books():
                draws.append(("store", fresh, dice.choice(tried.books()), dice.choice(("two(two(o))", "add(s(o),o)", "o")), "h"))
            for name in tried.stores():
                store = tried.store_named(name)
                hand = dice.choice(store.hands())
                steps = [place for place in store.way_of(hand).end.places() if store.way_of(hand).end.sub(place).word == "two"]
                draws += [("at", name, ("do", hand, steps[:2] if store.book.text() == TEXT else [])), ("at", name, ("post", "-", []))] * 2
                draws.append(("at", name, ("take", hand, 0)) if store.letters() else ("close", name))
            deeds.append(dice.choice(draws))
            tried.do(deeds[-1])
        return tuple(deeds)


class AnswersTest(Case):
    def test_names(self):
        bench = Bench()
        self.assert_equal([bench.say("books"), bench.say(line="stores"), bench("books"), bench(line="stores")], ["none"] * 4)
        bench = a_bench(HANDS)
        self.assert_equal([bench("books"), bench("stores"), bench("hands s")], ["k", "s", "a b"])

    def test_questions_about_hands(self):
        bench = a_bench(HANDS, (("at", "s", ("branch", "a", "c")), ("at", "s", ("post", ".+1", [])), ("at", "s", ("take", "a", 2))))
        rows = (("term s a", "pair(two(o),two(o))"), ("key s a", "."), ("key s b", ".+1"), ("lacks s a b", "1+2"), ("lacks s b a", "0"), ("lacks s a c", "0"),
                ("within s a b", "yes"), ("within s b a", "no"), ("within s a a", "yes"), ("laid s a", "2"), ("laid s b", "none"), ("rest s a", "rest pair(pair(o,o),pair(o,o))"),
                ("rest s b", "rest pair(pair(o,o),pair(o,o))"), ("needed s a", "1 2"), ("needed s b", "none"), ("next s a", "1"), ("next s b", "none"),
                ("why s a pair(two(_),_)", "two(two(_))"), ("why s b _", "_"), ("why s b pair(_,pair(o,_))", "two(two(o))"))
        for line, answer in rows:
            self.assert_equal([bench.say(line), bench(line)], [answer, answer])
        bench.do(("at", "s", ("post", ".+1", [])), ("at", "s", ("take", "a", 3)))
        self.assert_equal(bench("laid s a"), "2 3")

    def test_rests_with_the_rounds_of_the_bench(self):
        bench = Bench()
        bench.do(("book", "k", RINGS), ("store", "s", "k", "a", "h"), ("store", "t", "k", "up(a)", "h"), ("book", "m", TEXT), ("store", "u", "m", chain(11).text(), "h"),
                 ("store", "v", "m", "two(o)", "h"), ("store", "w", "k", "up(s(o))", "h"))
        self.assert_equal([bench("rest " + name + " h") for name in "stuv"], ["ring", "open", "great", "rest pair(o,o)"])
        self.assert_equal([bench("needed " + name + " h") for name in "stuv"], ["error NoRest", "error NoRest", "error NoRest", "."])
        bench.rounds = 200
        self.assert_equal([bench("rest w h"), bench("needed v h"), bench("rest s h")], ["great", ".", "ring"])
        bench.set_rounds(0)
        self.assert_equal([bench("rest " + name + " h") for name in "stuv"], ["open"] * 4)
        self.assert_equal([bench("needed v h"), bench("next v h"), bench("next s h")], ["error NoRest", ".", "."])
        bench.rounds = 1
        self.assert_equal([bench("rest v h"), bench("rest s h"), bench("needed s h")], ["rest pair(o,o)", "open", "error NoRest"])

    def test_as_the_calls_tell(self):
        bench = Bench()
        bench.do(("book", "k", SUMS), ("store", "s", "k", "mul(s(s(o)),add(s(o),mul(o,o)))", "a"), ("at", "s", ("branch", "a", "b")))
        for _ in range(4):
            store = bench.store_named("s")
            ends = {hand: store.way_of(hand).end for hand in "ab"}
            for hand in "ab":
                word, way, index = full_layers(store.book, ends[hand])
                place = next_place(store.book, ends[hand])
                self.assert_equal(bench(f"rest s {hand}"), f"rest {way.end.text()}")
                self.assert_equal(bench(f"needed s {hand}"), " ".join(map(place_text, needed(store.book, ends[hand]))))
                self.assert_equal([bench(f"next s {hand}"), bench(f"term s {hand}"), bench(f"key s {hand}")], [place_text(place), ends[hand].text(), store.key_text(hand)])
                self.assert_equal(bench(f"why s {hand} {ends[hand].text()}"), why(store.way_of(hand)).text())
                for other in "ab":
                    self.assert_equal(bench(f"lacks s {hand} {other}"), store.lacks(hand, other).text())
                    self.assert_equal(bench(f"within s {hand} {other}"), "yes" if within(store.way_of(hand), store.way_of(other)) else "no")
            bench.do(("at", "s", ("do", "a", [next_place(store.book, ends["a"])])), ("at", "s", ("do", "b", needed(store.book, ends["b"]))))

    def test_undo_and_redo(self):
        bench = a_bench(HANDS)
        self.assert_equal([bench("undo"), bench("undo"), bench("undo"), bench("redo"), bench.history()], ["done", "done", "error NoHistory", "done", (1, 1)])
        self.assert_equal([bench("redo"), bench("redo"), bench.history(), bench == a_bench(HANDS)], ["done", "error NoHistory", (2, 0), True])

    def test_names_that_are_not_there_come_first(self):
        bench = a_bench(HANDS)
        for line in ("hands x", "hands k", "term x a", "key k a", "laid S a", "rest 5 a", "needed x x", "next x a", "lacks x a b", "within x y z", "why x a f(", "why x a X",
                     "term s x", "key s s", "laid s c", "rest s A", "needed s x", "next s x", "lacks s x a", "lacks s a x", "within s x a", "within s a x", "why s x f(",
                     "why s x pair(_)", "why s k X", "term s _", "why s . _"):
            self.assert_equal(bench(line), "error UnknownName")

    def test_errors_of_the_calls(self):
        bench = a_bench(HANDS)
        for text, code in (("f(", "InvalidText"), ("pair(two(o),)", "InvalidText"), ("5", "InvalidText"), ("X", "NotPiece"), ("pair(X,_)", "NotPiece"), ("two(_)", "NotPiece"),
                           ("pair(_)", "NotPiece"), (sized(2001).text(), "TooGreat"), ("-", "InvalidText")):
            self.assert_equal(bench(f"why s a {text}"), f"error {code}")
        bench.do(("book", "m", UNSPLIT), ("store", "t", "m", "f(o)", "h"), ("book", "n", ROUND), ("store", "u", "n", "g(a,b,a)", "h"), ("book", "o", TEXT),
                 ("store", "w", "o", chain(11).text(), "h"), ("at", "w", ("branch", "h", "i")))
        self.assert_equal([bench("next t h"), bench("next u h"), bench("needed u h"), bench("needed w h"), bench("rest w h")],
                          ["error NotSplit", "error NoTree", ".", "error NoRest", "great"])
        bench.do(("at", "w", ("do", "h", [(1,) * at for at in range(6)])), *[("at", "w", ("do", "i", [(1,) * at])) for at in range(10, 5, -1)])
        self.assert_equal([bench("lacks w h i"), bench("lacks w i h"), bench("within w h i")], ["error TooGreat", "error TooGreat", "no"])

    def test_lines_that_are_unknown(self):
        bench = a_bench(HANDS)
        before = bench.twin()
        for line in ("", " ", "x", "Books", "books ", " books", "books s", "stores  ", "hands", "hands  s", "hands s a", "hands s ", "term s", "term s a b", "term  s a", "term s a ",
                     "key s", "lacks s a", "lacks s a b c", "within s a", "laid s", "rest s", "rest s a 5", "needed s", "next s", "why s a", "why s a _ _", "why s a ", "undo undo",
                     "undo ", "redo s", "do", "close s", "books\n", "\nbooks", "term s a\n", "term s\na", "undo\n", "why s a f(\n", "why s a\n_", "term\ns a", "\n", "hands x\n", "unknown",
                     "none", "history", "rounds 5", "busy", "at s a", "term,s,a"):
            self.assert_equal([bench.say(line), bench(line)], ["unknown", "unknown"])
        self.assertEqual([bench, bench.history()], [before, before.history()])

    def test_the_log(self):
        bench = a_bench(HANDS)
        self.assert_equal(bench.log(), [])
        lines = ["books", "x", "undo", "hands t", "redo", "key s a", "books\n"]
        answers = [bench(line) if at % 2 else bench.say(line) for at, line in enumerate(lines)]
        self.assert_equal(answers, ["k", "unknown", "done", "error UnknownName", "done", ".", "unknown"])
        self.assert_equal(bench.log(), list(zip(lines, answers)))
        bench.log().clear()
        bench.undo()
        self.assert_equal(bench.log(), list(zip(lines, answers)))

    def test_lists_that_are_told_are_new(self):
        bench = a_bench(HANDS, (("at", "s", ("post", ".+1", [])), ("at", "s", ("take", "a", 2))))
        results = bench.do(("at", "s", ("take", "b", 2)))
        for told in (bench.books(), bench.stores(), bench.journal(), bench.log(), results[0], results, bench.store_named("s").laid("a")):
            told.clear()
        self.assert_equal([bench.books(), bench.stores(), len(bench.journal()), bench("laid s a"), bench.store_named("s").laid("a")], [["k"], ["s"], 4, "2", [2]])


if __name__ == "__main__":
    unittest.main()
