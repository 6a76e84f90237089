"""What holds of every function and method: nothing that is passed is changed, and lists that are told are new."""

import unittest

from remainways.bench import Bench
from remainways.books import Book, stand_on
from remainways.retelling import Retelling
from remainways.rules import Rule
from remainways.stores import Store
from remainways.terms import Term
from remainways.ways import Way
from remainways.webs import Web
from tests.helper import BOOKS, Case
from tests.storewords import told_by
from tests.test_bench import told_of
from tests.test_interface import FUNCTIONS, METHODS, module_of

EVEN = Book.read("1 swap(pair(X,Y)) -> pair(Y,X)\n1 one(X) -> X\n")
SUMS, TWO = BOOKS[3], Book.read("1 two(X) -> pair(X,X)\n1 one(X) -> X\n")
STEP, SUM = Term.read("two(one(two(o)))"), Term.read("add(s(o),mul(o,add(s(o),o)))")
ONE, OTHER = Way.read(TWO, STEP, ".;1+2.1"), Way.read(TWO, STEP, "1;1")
PATTERN, PIECE = Term.read("add(s(X),Y)"), Term.read("pair(two(_),_)")
ROUND = Way.read(EVEN, Term.read("swap(one(swap(pair(swap(pair(o,s(o))),o))))"), "1;1;1.2;.")
ROWS = [("two", 1, "one", (1,)), ("one", 1, "two", (1,)), ("pair", 2, "pair", (2, 1))]
KNOTS = [("o",), ("one", 0), ("two", 1), ("pair", 2, 2)]
BEHIND = ONE.end
# For each function what it is passed, by position.
CALLS = {
    "is_name": ("a",), "is_hole": ("X",), "is_number": (5, 1, 9), "is_place": ((1, 2),), "is_beneath": ((1, 2), (1,)), "place_text": ((1, 2),),
    "read_place": ("1.2",), "lot_text": ([(2,), (1,)],), "stand_on": (TWO.rules()[0], TWO.rules()[1], ()), "rule_at": (TWO, STEP, (1,)),
    "step_places": (TWO, STEP), "walk_steps": (TWO, STEP), "lot_of": (TWO, STEP, [(1, 1), ()]), "done": (TWO, STEP, [(1,), ()]),
    "followed": (TWO, STEP, (1,), [()]), "left_lot": (TWO, STEP, [(1,)], [()]), "times_of": (TWO, STEP, (1, 1), [()]), "size_after": (TWO, STEP, [()]),
    "lot_dues": (TWO, STEP, [(), (1,)]), "lot_steps": (TWO, STEP, [(), (1,)]), "least_row": (TWO, STEP, [(), (1,)]), "greatest_row": (TWO, STEP, [(), (1,)]),
    "rows_of_lot": (TWO, STEP, [(), (1,)]), "left": (ONE, OTHER), "images": (ONE, (1, 1)), "left_of_lot": (ONE, [(1,), (1, 1)]), "squares": (ONE, OTHER),
    "joined": (ONE, OTHER), "within": (ONE, OTHER), "alike": (ONE, OTHER), "first_layer": (ONE,), "layers": (ONE,), "settled": (OTHER,), "key_of": (OTHER,),
    "difference": (ONE, OTHER), "singles": (ONE,), "side_by_side": ("f", [ONE, OTHER]), "put_way": (STEP, (1,), ONE), "common_past": (ONE, OTHER),
    "without": (ONE, (1,)), "parts": (ONE,), "count_rows": (ONE,), "work_dues": (ONE,), "work_steps": (ONE,), "rows_of_work": (ONE,),
    "is_piece_of": (PIECE, BEHIND), "common_piece": (STEP, BEHIND), "joined_piece": (PIECE, BEHIND), "without_sign": (STEP, (1,)), "named_places": (PIECE,),
    "run_on": (ONE, STEP), "standing": (ONE, STEP), "why": (ONE,), "lean": (ONE,), "moved": (ONE, STEP, STEP), "full_layers": (SUMS, SUM), "rest_of": (SUMS, SUM),
    "needed": (SUMS, SUM), "around": (SUMS, SUM, (2, 2)), "needed_rounds": (SUMS, SUM), "web_steps": (TWO, Web(KNOTS)), "web_layer": (TWO, Web(KNOTS)),
    "web_rest": (TWO, Web(KNOTS)), "doers": (SUMS,), "check_split": (SUMS,), "tree": (SUMS, ("add", 2)),
    "stuck": (Book.read("1 g(a,b,X) -> o\n1 g(X,a,b) -> o\n1 g(b,X,a) -> o\n"), ("g", 3)), "gaps": (SUMS, ("add", 2), [("t", 0), ("o", 0)]),
    "next_place": (SUMS, SUM), "is_blocked": (SUMS, SUM), "by_looks": (SUMS, SUM), "count_events": (ROUND,), "extent": (ROUND, ROUND), "causes": (ROUND, 3),
    "is_before": (ROUND, 1, 3), "part_of": (ROUND, [1, 0]), "without_event": (ROUND, 3, 2), "chain_layers": (ROUND,), "count_orders": (ROUND,),
    "order_at": (ROUND, 1), "number_of": (ROUND, [0, 1, 2, 3]), "row_of": (ROUND, [0, 1, 2, 3]), "squares_paper": (ONE, OTHER), "why_paper": (ONE, PIECE),
    "rest_paper": (SUMS, SUM), "first_wrong": (TWO, ["squares", "start o", None]),
}
DEEDS = (("book", "k", "1 two(X) -> pair(X,X)\n"), ("store", "s", "k", "two(two(o))", "a"), ("at", "s", ("do", "a", [(), (1,)])))


def a_store():
    """A store with letters."""
    store = Store(TWO, STEP, "a", "b")
    store.together(("do", "a", [()]), ("do", "a", [(1,)]), ("take", "b", 1))
    return store


def a_bench():
    """A bench with a history and a log."""
    bench = Bench()
    bench.do(*DEEDS)
    bench.do(("close", "s"))
    bench.undo()
    bench.say("stores")
    return bench


# For each class how an object is made, and for each method what it is passed.
OBJECTS = {
    "Term": (lambda: PATTERN, {"sub": ((1,),), "with_sub": ((2,), STEP), "read": ("add(o,Y)",)}),
    "Rule": (lambda: Rule(PATTERN, Term.read("s(add(X,Y))")), {"times": ("X",), "hole_places": ("Y",)}),
    "Book": (lambda: TWO, {"rules_for": (("two", 1),), "with_rule": (Rule(PATTERN, PATTERN),), "read": (SUMS.text(),)}),
    "Way": (lambda: ONE, {"with_lot": ([],), "followed_by": (Way(TWO, BEHIND),), "read": (TWO, STEP, "1;1")}),
    "Retelling": (lambda: Retelling(ROWS), {"term_told": (STEP,), "place_told": (STEP, (1,)), "lot_told": (STEP, [(1,), ()]), "book_told": (TWO,), "way_told": (ONE,)}),
    "Web": (lambda: Web(KNOTS), {"of": (STEP,), "count_of": ("o",), "sub": ((1,),)}),
    "Store": (a_store, {"way_of": ("a",), "key_text": ("a",), "laid": ("b",), "has_letter": ("a", 1), "do": ("a", [(2,)]), "take": ("b", 0), "meet": ("b", "a"),
                        "branch": ("b", "c"), "take_out": ("a", (1,)), "drop": ("a",), "post": (".", [(1,), (2,)]), "lacks": ("b", "a"), "common": ("a", "b"),
                        "together": (("do", "a", [(2,)]), ("take", "b", 0))}),
    "Bench": (a_bench, {"do": (("at", "s", ("do", "a", [])), ("at", "s", ("take", "a", 0))), "replay": ([list(DEEDS)],), "tried": (("close", "s"),), "book_named": ("k",),
                        "store_named": ("s",), "set_rounds": (5,), "say": ("key s a",)}),
}
CHANGING = ("do", "take", "meet", "branch", "take_out", "drop", "post", "together", "undo", "redo", "set_rounds", "say", "__call__")


def seen(value):
    """All that can be seen of a value, as a text."""
    if isinstance(value, (list, tuple)):
        return f"{value.__class__.__name__}[{', '.join([seen(item) for item in value])}]"
    if isinstance(value, (Term, Book, Rule, Way)):
        return f"{value!r} {value.text()} {seen(list(value)) if not isinstance(value, Rule) else value.due}"
    if isinstance(value, Web):
        return seen(value.knots())
    if isinstance(value, Retelling):
        return seen(value.rows())
    if isinstance(value, Store):
        return seen(told_by(value)) + repr(value)
    if isinstance(value, Bench):
        return seen(told_of(value)) + seen([value.history(), value.journal(), value.log(), value.rounds])
    return repr(value)


def cleared(value):
    """Empties each list in a result, those within them first."""
    if isinstance(value, (list, tuple)):
        for item in list(value):
            cleared(item)
    if isinstance(value, list):
        value.append(None)
        value.clear()


def as_list(value):
    """What a generator gives as a list; other values as they are."""
    return list(value) if hasattr(value, "__next__") else value


class FunctionsTest(Case):
    def test_nothing_that_is_passed_is_changed_and_all_lists_are_new(self):
        for name, functions in FUNCTIONS.items():
            for word in functions:
                call, told = getattr(module_of(name), word), CALLS[word]
                before = seen(told)
                result = as_list(call(*told))
                found = seen(result)
                cleared(result)
                self.assertEqual([seen(as_list(call(*told))), seen(told)], [found, before], word)

    def test_parameters_by_their_names(self):
        for name, functions in FUNCTIONS.items():
            for word, parameters in functions.items():
                if word not in ("joined",):
                    call, told = getattr(module_of(name), word), CALLS[word]
                    named = dict(zip(parameters.split(" "), told))
                    self.assertEqual(seen(as_list(call(**named))), seen(as_list(call(*told))), word)

    def test_each_function_is_called(self):
        words = [word for functions in FUNCTIONS.values() for word in functions]
        self.assertEqual(sorted(words), sorted(CALLS))
        self.assertIs(stand_on(*CALLS["stand_on"]), False)


class MethodsTest(Case):
    def rows(self):
        """Each class with each method and what it is passed."""
        for (name, word), methods in METHODS.items():
            for method in methods:
                if not method.startswith("__") or method == "__call__":
                    made, told = OBJECTS[word]
                    yield made, method, methods[method].split(" "), told.get(method, ("books",) if method == "__call__" else ())

    def test_nothing_that_is_passed_is_changed_and_all_lists_are_new(self):
        for made, method, words, told in self.rows():
            one, other, before = made(), made(), seen(told)
            result = getattr(one, method)(*told)
            found, state = seen(result), seen(one)
            cleared(result)
            # A call on an equal state has an equal result, and leads to an equal state.
            self.assertEqual([seen(getattr(other, method)(*told)), seen(other)], [found, state], method)
            self.assertEqual([seen(told), seen(one)], [before, state], method)
            if method not in CHANGING:
                self.assertEqual([seen(getattr(one, method)(*told)), seen(one), seen(made())], [found, state, state], method)

    def test_parameters_by_their_names(self):
        for made, method, words, told in self.rows():
            if method not in ("together", "tried") and words[-1] != "deeds":
                named = dict(zip([word for word in words if word != "self"], told))
                one, other = made(), made()
                self.assertEqual(seen(getattr(one, method)(**named)), seen(getattr(other, method)(*told)), method)
                self.assertEqual(seen(one), seen(other))

    def test_lists_that_were_passed_may_be_changed(self):
        rows = [(Book.read(SUMS.text()), "Way", [[()], [(1,)]])]
        self.assertEqual(len(rows[0][0]), 4)
        lots, knots, told = [[()], [(1,)]], list(KNOTS), list(ROWS)
        way, web, retelling = Way(TWO, STEP, lots), Web(knots), Retelling(told)
        before = seen([way, web, retelling])
        cleared([lots, knots, told])
        self.assertEqual([seen([way, web, retelling]), lots, knots, told], [before, [], [], []])


if __name__ == "__main__":
    unittest.main()
