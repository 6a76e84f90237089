"""The interface: each name in its own module, with its parameters, and the examples of the document."""

import importlib
import inspect
import unittest

from remainways.books import Book
from remainways.counts import lot_dues, size_after
from remainways.doing import done
from remainways.eventorders import count_orders, order_at
from remainways.events import causes, chain_layers
from remainways.gaps import gaps
from remainways.layers import difference, key_of
from remainways.lean import lean
from remainways.looks import tree
from remainways.needs import needed
from remainways.pasts import common_past, without
from remainways.remains import alike, joined, left
from remainways.rests import full_layers
from remainways.steps import step_places
from remainways.stores import Store
from remainways.terms import Term
from remainways.ways import Way
from remainways.why import why
from remainways.works import parts
from tests.helper import Case

SUMS = "1 add(o,Y) -> Y\n1 add(s(X),Y) -> s(add(X,Y))\n1 mul(o,Y) -> o\n1 mul(s(X),Y) -> add(Y,mul(X,Y))\n"
FUNCTIONS = {
    "words": {"is_name": "value", "is_hole": "value", "is_number": "value least most"},
    "places": {"is_place": "value", "is_beneath": "place other", "place_text": "place", "read_place": "text",
               "lot_text": "lot"},
    "books": {"stand_on": "one other place"},
    "steps": {"rule_at": "book term place", "step_places": "book term", "walk_steps": "book term",
              "lot_of": "book term lot"},
    "doing": {"done": "book term lot", "followed": "book term place lot", "left_lot": "book term lot other"},
    "counts": {"times_of": "book term place lot", "size_after": "book term lot", "lot_dues": "book term lot",
               "lot_steps": "book term lot"},
    "orders": {"least_row": "book term lot", "greatest_row": "book term lot", "rows_of_lot": "book term lot"},
    "remains": {"left": "one other", "images": "way place", "left_of_lot": "way lot", "squares": "one other",
                "joined": "way others", "within": "one other", "alike": "one other"},
    "layers": {"first_layer": "way", "layers": "way", "settled": "way", "key_of": "way", "difference": "one other",
               "singles": "way"},
    "beside": {"side_by_side": "name ways", "put_way": "term place way"},
    "pasts": {"common_past": "one other", "without": "way place"},
    "works": {"parts": "way most", "count_rows": "way", "work_dues": "way", "work_steps": "way", "rows_of_work": "way"},
    "pieces": {"is_piece_of": "piece term", "common_piece": "one other", "joined_piece": "one other",
               "without_sign": "piece place", "named_places": "piece"},
    "why": {"run_on": "way piece", "standing": "way piece", "why": "way piece"},
    "lean": {"lean": "way", "moved": "way piece term"},
    "rests": {"full_layers": "book term rounds", "rest_of": "book term rounds"},
    "needs": {"needed": "book term rounds", "around": "book term place rounds", "needed_rounds": "book term rounds"},
    "weblayers": {"web_steps": "book web", "web_layer": "book web", "web_rest": "book web rounds"},
    "looks": {"doers": "book", "check_split": "book", "tree": "book doer", "stuck": "book doer"},
    "gaps": {"gaps": "book doer makers"},
    "nextlook": {"next_place": "book term", "is_blocked": "book term", "by_looks": "book term most"},
    "events": {"count_events": "way", "extent": "way part", "causes": "way event", "is_before": "way one other",
               "part_of": "way events", "without_event": "way one other", "chain_layers": "way"},
    "eventorders": {"count_orders": "way", "order_at": "way number", "number_of": "way order", "row_of": "way order"},
    "papers": {"squares_paper": "one other", "why_paper": "way piece", "rest_paper": "book term rounds"},
    "looker": {"first_wrong": "book value"},
}
METHODS = {
    ("terms", "Term"): {
        "parts": "self", "sign": "self", "sub": "self place", "with_sub": "self place term", "places": "self",
        "holes": "self", "is_plain": "self", "is_pattern": "self", "is_piece": "self", "is_fit": "self",
        "text": "self", "read": "text", "__str__": "self", "__iter__": "self", "__eq__": "self other",
        "__len__": "self", "__repr__": "self", "__and__": "self other", "__init__": "self word parts",
    },
    ("rules", "Rule"): {
        "copies": "self", "strikes": "self", "times": "self hole", "hole_places": "self hole", "text": "self",
        "__str__": "self", "__eq__": "self other", "__repr__": "self", "__init__": "self left right due",
    },
    ("books", "Book"): {
        "rules": "self", "rules_for": "self sign", "first_striking": "self", "first_copying": "self",
        "is_even": "self", "with_rule": "self rule", "text": "self", "read": "text", "__str__": "self",
        "__iter__": "self", "__eq__": "self other", "__len__": "self", "__repr__": "self", "__init__": "self rules",
    },
    ("ways", "Way"): {
        "lots": "self", "terms": "self", "with_lot": "self lot", "followed_by": "self way", "text": "self",
        "read": "book start text", "__str__": "self", "__iter__": "self", "__eq__": "self other", "__len__": "self",
        "__repr__": "self", "__init__": "self book start lots",
    },
    ("retelling", "Retelling"): {
        "rows": "self", "term_told": "self term", "place_told": "self term place", "lot_told": "self term lot",
        "book_told": "self book", "way_told": "self way", "back": "self", "__len__": "self", "__repr__": "self",
        "__init__": "self rows",
    },
    ("webs", "Web"): {
        "of": "term", "knots": "self", "size": "self", "count_of": "self name", "sub": "self place", "told": "self",
        "__eq__": "self other", "__len__": "self", "__repr__": "self", "__init__": "self knots",
    },
    ("stores", "Store"): {
        "hands": "self", "way_of": "self hand", "key_text": "self hand", "letters": "self", "laid": "self hand",
        "has_letter": "self hand number", "do": "self hand lot", "take": "self hand number", "meet": "self hand other",
        "branch": "self hand name", "take_out": "self hand place", "drop": "self hand", "post": "self ground lot",
        "lacks": "self hand other", "common": "self hand other", "together": "self deeds", "twin": "self",
        "__eq__": "self other", "__len__": "self", "__repr__": "self", "__init__": "self book start hands",
    },
    ("bench", "Bench"): {
        "do": "self deeds", "undo": "self", "redo": "self", "history": "self", "journal": "self", "replay": "calls",
        "tried": "self deeds", "books": "self", "stores": "self", "book_named": "self name", "store_named": "self name",
        "set_rounds": "self rounds", "say": "self line", "__call__": "self line", "log": "self", "twin": "self",
        "__eq__": "self other", "__len__": "self", "__repr__": "self", "__init__": "self",
    },
}
# The parameters that take any number of arguments.
STARRED = (("remains", "joined", "others"), ("terms", "Term", "parts"), ("books", "Book", "rules"), ("stores", "Store", "hands"),
           ("stores", "Store.together", "deeds"), ("bench", "Bench.do", "deeds"), ("bench", "Bench.tried", "deeds"))
# The parameters that are passed by keyword alone, with their defaults.
KEYWORDS = (("works", "parts", "most", 400), ("why", "why", "piece", None), ("rests", "full_layers", "rounds", 60),
            ("rests", "rest_of", "rounds", 60), ("needs", "needed", "rounds", 60), ("needs", "around", "rounds", 60),
            ("needs", "needed_rounds", "rounds", 60), ("rules", "Rule", "due", 1),
            ("weblayers", "web_rest", "rounds", 60), ("nextlook", "by_looks", "most", 200),
            ("papers", "rest_paper", "rounds", 60))
STATIC = (("terms", "Term", "read"), ("books", "Book", "read"), ("ways", "Way", "read"), ("webs", "Web", "of"),
          ("bench", "Bench", "replay"))


def module_of(name):
    """The module of this name."""
    return importlib.import_module(f"remainways.{name}")


def words_of(call):
    """The names of the parameters of a call, with spaces between."""
    return " ".join(inspect.signature(call).parameters)


class NamesTest(Case):
    def test_functions_stand_in_their_modules(self):
        for name, functions in FUNCTIONS.items():
            for function, words in functions.items():
                found = getattr(module_of(name), function)
                self.assertEqual([found.__module__, words_of(found)], [f"remainways.{name}", words])

    def test_classes_have_their_methods_themselves(self):
        for (name, word), methods in METHODS.items():
            found = getattr(module_of(name), word)
            self.assertEqual(found.__module__, f"remainways.{name}")
            for method, words in methods.items():
                self.assertIn(method, vars(found))
                self.assertEqual(words_of(getattr(found, method)), words)

    def test_static_methods_and_properties(self):
        for name, word, method in STATIC:
            self.assertIsInstance(vars(getattr(module_of(name), word))[method], staticmethod)
        self.assertIsInstance(vars(module_of("terms").Term)["levels"], property)
        self.assertIsInstance(vars(module_of("ways").Way)["end"], property)
        self.assertIsInstance(vars(module_of("stores").Store)["busy"], property)
        for word in ("rounds", "busy"):
            self.assertIsInstance(vars(module_of("bench").Bench)[word], property)

    def test_operators_stand_in_their_classes(self):
        self.assertIn("__contains__", vars(module_of("terms").Term))
        self.assertIn("__add__", vars(module_of("books").Book))
        self.assertIn("__add__", vars(module_of("ways").Way))
        self.assertIn("__contains__", vars(module_of("stores").Store))

    def test_defaults(self):
        for name, word, parameter, default in KEYWORDS:
            found = inspect.signature(getattr(module_of(name), word)).parameters[parameter]
            self.assertEqual([found.default, found.kind], [default, inspect.Parameter.KEYWORD_ONLY])
        self.assertEqual(inspect.signature(module_of("ways").Way).parameters["lots"].default, ())

    def test_any_number_of_arguments(self):
        kinds = {(name, word, parameter.name): parameter.kind for name, word, call in self.all_calls()
                 for parameter in inspect.signature(call).parameters.values()}
        starred = [key for key in kinds if kinds[key] == inspect.Parameter.VAR_POSITIONAL]
        self.assertEqual(sorted(starred), sorted(STARRED))
        keywords = [key for key in kinds if kinds[key] == inspect.Parameter.KEYWORD_ONLY]
        self.assertEqual(sorted(keywords), sorted(row[:3] for row in KEYWORDS))
        # All others may be passed by position and by name.
        others = {kinds[key] for key in kinds if key not in starred + keywords}
        self.assertEqual(others, {inspect.Parameter.POSITIONAL_OR_KEYWORD})

    def all_calls(self):
        """All functions, classes and methods, each with its module and its name."""
        for name, functions in FUNCTIONS.items():
            for word in functions:
                yield name, word, getattr(module_of(name), word)
        for (name, word), methods in METHODS.items():
            yield name, word, getattr(module_of(name), word)
            for method in methods:
                if not method.startswith("__"):
                    yield name, f"{word}.{method}", getattr(getattr(module_of(name), word), method)

    def test_generators(self):
        self.assertTrue(inspect.isgeneratorfunction(module_of("steps").walk_steps))
        self.assertTrue(inspect.isgeneratorfunction(module_of("orders").rows_of_lot))
        self.assertTrue(inspect.isgeneratorfunction(module_of("works").rows_of_work))

    def test_numbers_of_modules(self):
        self.assertEqual([module_of("works").MOST, module_of("rests").ROUNDS], [400, 60])
        self.assertEqual([module_of("weblayers").ROUNDS, module_of("papers").ROUNDS], [60, 60])


class ExamplesTest(Case):
    def test_lots_and_what_they_bring(self):
        book, start = Book.read(SUMS), Term.read("mul(s(s(o)),add(s(o),o))")
        lot = step_places(book, start)
        told = [lot, done(book, start, lot).text(), lot_dues(book, start, lot), size_after(book, start, lot)]
        self.assert_equal(told, [[(), (2,)], "add(s(add(o,o)),mul(s(o),s(add(o,o))))", (2, 3), 12])

    def test_overlaps(self):
        told = [0, 1, (), Term.read("or(yes,yes)")]
        self.raises("Overlaps", told, Book.read, "1 or(yes,X) -> yes\n1 or(X,yes) -> yes\n")

    def test_wrong_text(self):
        self.raises("InvalidText", [0, 6], Term.read, "add(o,)")

    def test_the_same_work_in_two_orders(self):
        book = Book.read("1 two(X) -> pair(X,X)\n")
        start = Term.read("two(two(o))")
        one, other, third = Way.read(book, start, ".;1"), Way.read(book, start, ".;2"), Way.read(book, start, "1;.")
        found = [left(one, third).text(), left(third, one).text(), common_past(one, other).text(),
                 key_of(joined(one, other)), without(third, (1,)).text()]
        self.assert_equal(found, ["0;0", "2;0", ".", ".+1", "."])

    def test_the_same_end_of_two_works(self):
        book = Book.read("1 one(X) -> X\n")
        start = Term.read("one(one(o))")
        one, other = Way(book, start, [[()]]), Way(book, start, [[(1,)]])
        found = [left(one, other).text(), left(other, one).text(), one.end == other.end, difference(one, other)]
        self.assert_equal(found, [".", ".", True, (0, 0, (), ((),))])

    def test_keys_of_works(self):
        book = Book.read("1 two(X) -> pair(X,X)\n1 fst(pair(X,Y)) -> X\n")
        start = Term.read("fst(pair(o,two(o)))")
        one, other = Way(book, start, [[(1, 2)], [()]]), Way(book, start, [[()]])
        self.assert_equal([alike(one, other), key_of(one), lean(one).text()], [True, ".+1.2", "."])
        book = Book.read("1 swap(pair(X,Y)) -> pair(Y,X)\n")
        way = Way.read(book, Term.read("swap(swap(pair(swap(pair(o,s(o))),o)))"), "1;.;1")
        self.assert_equal([key_of(way), len(parts(way))], ["1+1.1.1;.", 6])

    def test_why_a_piece_of_a_rest_is_there(self):
        book, start = Book.read(SUMS), Term.read("mul(s(s(o)),add(s(o),o))")
        word, way, index = full_layers(book, start)
        told = [word, way.text(), index, way.end.text(), why(way, piece=Term.read("s(_)")).text()]
        self.assert_equal(told, ["rest", ".+2;.+1.1+2+2.2.1;1+1.2+1.2.2;1.1", None, "s(s(o))", "mul(s(_),add(s(_),_))"])

    def test_needed_steps(self):
        self.assert_equal(needed(Book.read(SUMS), Term.read("add(s(o),mul(o,add(s(o),o)))")), ((), (2,)))

    def test_first_looks(self):
        book = Book.read(SUMS)
        holes = gaps(book, ("add", 2), [("o", 0), ("t", 0)])
        told = [tree(book, ("add", 2)), len(holes), holes[0].text()]
        wanted = ("look", (1,), ((("o", 0), ("rule", 0)), (("s", 1), ("rule", 1))))
        self.assert_equal(told, [wanted, 1, "add(t,_)"])

    def test_events(self):
        book = Book.read("1 swap(pair(X,Y)) -> pair(Y,X)\n")
        way = Way.read(book, Term.read("swap(swap(pair(swap(pair(o,s(o))),o)))"), "1;.;1")
        found = [key_of(way), len(parts(way)), causes(way, 1), causes(way, 2), chain_layers(way), count_orders(way), order_at(way, 2)]
        self.assert_equal(found, ["1+1.1.1;.", 6, (0,), (), [(0, 2), (1,)], 3, (2, 0, 1)])

    def test_stores(self):
        store = Store(Book.read("1 two(X) -> pair(X,X)\n"), Term.read("two(two(o))"), "a", "b")
        numbers = [store.do("a", [(1,)]), store.do("b", [()])]
        taken = [store.take("a", 1), store.take("b", 0)]
        found = [numbers, taken, store.key_text("a"), store.key_text("b"), store.letters()]
        self.assert_equal(found, [[0, 1], [[1], [0]], ".+1", ".+1", [("-", ((1,),)), ("-", ((),))]])

    def test_ends_that_are_alike(self):
        book, start = Book.read("1 one(X) -> X\n"), Term.read("one(one(o))")
        self.assertEqual(done(book, start, [()]), done(book, start, [(1,)]))


if __name__ == "__main__":
    unittest.main()
