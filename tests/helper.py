"""What the tests share: how errors are told, books, random terms, and the document's definitions once more.

The definitions here follow the words of the document, point by point, with no regard to speed: they
are what the program is compared with.
"""

import random
import unittest

from remainways import errors
from remainways.books import Book
from remainways.terms import Term

# The base class of each error and the names of its parameters, as the document lists them.
ERRORS = {
    "WorkError": {
        "InvalidName": "value", "InvalidPart": "at", "InvalidSide": "word", "InvalidDue": "value",
        "InvalidRule": "at", "InvalidRow": "at", "InvalidText": "line at", "InvalidTerm": "",
        "InvalidLot": "at", "NoStep": "at place", "InvalidNumber": "value", "TooMany": "most",
        "TooGreat": "", "TwiceHole": "hole", "LooseHole": "hole", "Overlaps": "one other place piece",
        "NotTurned": "at", "OtherStart": "", "OtherBook": "", "Alike": "", "Strikes": "rule",
        "Copies": "rule", "NotPiece": "", "Clash": "place", "NoRest": "word", "Needed": "place",
        "InvalidKnot": "at", "InvalidMaker": "at", "NotSplit": "rule place",
        "NoTree": "doer sides piece", "NotWithin": "", "NotClosed": "event cause", "NotRow": "at",
        "NotKey": "", "DuplicateName": "name", "LastHand": "", "InvalidDeed": "at",
    },
    "Missing": {
        "UnknownName": "name", "UnknownDoer": "doer", "UnknownEvent": "event",
        "UnknownLetter": "number", "NoPlace": "place",
    },
    "NothingLeft": {"NoOrder": "number", "NoHistory": ""},
}
PARAMETERS = {name: words.split() for family in ERRORS.values() for name, words in family.items()}

ANY_VALUES = [
    None, True, False, 0, 1, -1, 5, 10 ** 40, "", "a", "X", "_", ".", "1", "add", "Add", (), [], (1,), [1],
    (0,), (5,), (True,), (1, True), ("1",), ((1,),), (None,), [()], ([],), ("a", 1), ["a", 1], ("a", True),
    Term("a"), (Term("a"),), Book(), errors.TooGreat(),
]


class Case(unittest.TestCase):
    """A test case that can ask for an error with all that it tells."""

    def raises(self, name, told, call, *args, **named):
        """The call raises just this error with just these values of its parameters."""
        with self.assertRaises(getattr(errors, name)) as caught:
            call(*args, **named)
        self.assertEqual(caught.exception.code, name)
        found = [getattr(caught.exception, word) for word in PARAMETERS[name]]
        self.assert_equal(found, list(told))

    def assert_equal(self, found, wanted):
        """Equal, and of the same kinds, also within: True is not 1, and a list is no tuple."""
        self.assertEqual(found, wanted)
        self.assertEqual(repr(found), repr(wanted))


BOOKS = [Book.read(text) for text in (
    "",
    "1 one(X) -> X\n",
    "1 two(X) -> pair(X,X)\n7 fst(pair(X,Y)) -> X\n",
    "1 add(o,Y) -> Y\n2 add(s(X),Y) -> s(add(X,Y))\n3 mul(o,Y) -> o\n5 mul(s(X),Y) -> add(Y,mul(X,Y))\n",
    "3 swap(pair(X,Y)) -> pair(Y,X)\n10 turn(X,Y) -> turn(Y,X)\n",
    "2 k(X,Y) -> X\n3 d(X) -> k(X,X)\n11 n -> o\n13 t(X,s(Y),Z) -> t(Z,Z,X)\n",
    "4 three(X) -> f(X,X,X)\n9 drop(X) -> o\n25 keep(X,Y) -> g(Y)\n0 ring -> ring\n",
)]
MAKERS = [("o", 0), ("s", 1), ("pair", 2)]


def signs_of(book):
    """The signs that stand in left sides of a book, and a few others."""
    found = list(MAKERS)
    for rule in book.rules():
        for place in rule.left.places():
            sign = rule.left.sub(place).sign()
            if sign is not None and sign not in found:
                found.append(sign)
    return found


def random_term(dice, book, levels):
    """A plain term with at most so many levels, in which rules of the book fit often."""
    if levels > 3 and book.rules() and dice.random() < 0.7:
        rule = dice.choice(book.rules())
        contents = {hole: random_term(dice, book, levels - rule.left.levels + 1) for hole in rule.left.holes()}
        if levels >= rule.left.levels:
            return put_in(rule.left, contents)
    signs = [sign for sign in signs_of(book) if levels > 1 or sign[1] == 0]
    name, count = dice.choice(signs)
    return Term(name, *[random_term(dice, book, levels - 1) for _ in range(count)])


def cases(many, seed, most_steps=7, most_size=60):
    """Random triples of a book, a start and all its step places, by the definitions here."""
    dice = random.Random(seed)
    found = []
    while len(found) < many:
        book = dice.choice(BOOKS[1:])
        term = random_term(dice, book, dice.randint(2, 6))
        steps = steps_by_words(book, term)
        if len(steps) > 1 + dice.randint(-2, 2) and len(steps) <= most_steps and len(term) <= most_size:
            found.append((book, term, steps))
    return found


def part_of(dice, places):
    """Some of these places, in any order."""
    chosen = [place for place in places if dice.random() < 0.6]
    dice.shuffle(chosen)
    return chosen


def put_in(side, contents):
    """A pattern with terms instead of its holes."""
    if side.word in contents:
        return contents[side.word]
    return Term(side.word, *[put_in(part, contents) for part in side.parts()])


def places_by_words(term):
    """The places of a term, one beneath the other."""
    found = [()]
    for at, part in enumerate(term.parts()):
        found += [(at + 1,) + place for place in places_by_words(part)]
    return found


def names_by_words(side):
    """The signs of a pattern by their places."""
    signs = {place: side.sub(place).sign() for place in places_by_words(side)}
    return {place: sign for place, sign in signs.items() if sign is not None}


def rule_by_words(book, term, place):
    """[9]: the index of the rule that fits at a place of a plain term, or None."""
    part = term.sub(place)
    for index, rule in enumerate(book.rules()):
        places = places_by_words(part)
        if all(at in places and part.sub(at).sign() == sign for at, sign in names_by_words(rule.left).items()):
            return index
    return None


def steps_by_words(book, term):
    """[9]: the step places of a plain term."""
    return [place for place in places_by_words(term) if rule_by_words(book, term, place) is not None]


def holes_by_words(rule):
    """The places of the holes of a left side, by the holes."""
    return {rule.left.sub(place).word: place
            for place in places_by_words(rule.left) if rule.left.sub(place).sign() is None}


def right_places(rule, hole):
    """The places of a hole in the right side."""
    return [place for place in places_by_words(rule.right) if rule.right.sub(place).word == hole]


def within(lot, place):
    """The places of a lot at or beneath a place, as places of the subterm there."""
    return [other[len(place):] for other in lot if other[:len(place)] == place]


def done_by_words(book, term, lot):
    """[10]: the term that doing a lot gives."""
    if () in lot:
        rule = book.rules()[rule_by_words(book, term, ())]
        contents = {hole: done_by_words(book, term.sub(place), within(lot, place))
                    for hole, place in holes_by_words(rule).items()}
        return put_in(rule.right, contents)
    parts = [done_by_words(book, part, within(lot, (at + 1,))) for at, part in enumerate(term.parts())]
    return Term(term.word, *parts)


def images_by_words(book, term, place, lot):
    """[11]: the images of a step place over a lot."""
    if place in lot:
        return []
    above = [other for other in lot if len(other) < len(place) and place[:len(other)] == other]
    if not above:
        return [place]
    top = min(above, key=len)
    rule = book.rules()[rule_by_words(book, term, top)]
    for hole, spot in holes_by_words(rule).items():
        start = top + spot
        if place[:len(start)] == start:
            inner = images_by_words(book, term.sub(start), place[len(start):], within(lot, start))
            return sorted(top + right + image for image in inner for right in right_places(rule, hole))
    raise AssertionError("a step place stands at a sign of a left side")


def left_by_words(book, term, lot, other):
    """[12]: what is left of a lot after another one."""
    return tuple(sorted(image for place in set(lot) for image in images_by_words(book, term, place, other)))


def rows_by_words(book, term, lot):
    """[13]: all rows for a lot, found by doing the single steps; with their dues and the terms they lead to."""
    if not lot:
        return [((), 0, term)]
    found = []
    for place in sorted(lot):
        due = book.rules()[rule_by_words(book, term, place)].due
        behind = done_by_words(book, term, [place])
        for row, dues, end in rows_by_words(book, behind, left_by_words(book, term, lot, [place])):
            found.append(((place,) + row, due + dues, end))
    return found


def nested(name, many, inside):
    """A term of one argument put around another one so many times."""
    for _ in range(many):
        inside = Term(name, inside)
    return inside


def shared(name, many, inside):
    """A term of 2 ** many times the term inside it, with equal parts shared."""
    for _ in range(many):
        inside = Term(name, inside, inside)
    return inside


def sized(many):
    """A term with so many places and few levels."""
    if many < 5:
        return nested("s", many - 1, Term("o"))
    rest = many - 1
    return Term("f", *[sized(rest // 4 + (1 if at < rest - rest // 4 * 4 else 0)) for at in range(4)])
