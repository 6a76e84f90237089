"""The document's definitions of events and orders, told once more, as in tests/waywords.py; and works in even books."""

import random

from remainways.books import Book
from remainways.terms import Term
from remainways.ways import Way
from remainways.works import parts
from tests.helper import done_by_words, random_term, steps_by_words
from tests.waywords import few_lots, images_after, left_way_by_words, random_lots, singles_by_words

# Rules that take signs away from between others, bring signs that others need, turn, shrink and grow.
EVENS = [Book.read(text) for text in (
    "1 one(X) -> X\n1 f(g(X)) -> h(X)\n1 k(h(X)) -> f(X)\n",
    "1 swap(pair(X,Y)) -> pair(Y,X)\n2 turn(X,Y) -> turn(Y,X)\n",
    "1 add(o,Y) -> Y\n1 add(s(X),Y) -> s(add(X,Y))\n5 n -> o\n",
    "1 one(X) -> X\n1 up(s(X)) -> X\n1 lift(X) -> s(s(X))\n1 both(s(X),s(Y)) -> pair(Y,one(X))\n",
    "1 a -> b\n1 b -> c\n1 e(c,X) -> X\n1 w(pair(X,Y),Z) -> pair(Y,e(X,Z))\n",
)]
# A book that copies, one that strikes, and one that does both: the first of each has another index.
COPIES = Book.read("1 one(X) -> X\n1 two(X) -> pair(X,X)\n")
STRIKES = Book.read("1 one(X) -> X\n1 n -> o\n1 fst(pair(X,Y)) -> X\n")
BOTH = Book.read("1 two(X) -> pair(X,X)\n1 fst(pair(X,Y)) -> X\n")


def even_start(dice, book, levels):
    """A plain term of the signs of a book."""
    sides = [side for rule in book for side in (rule.left, rule.right)]
    signs = sorted({side.sub(place).sign() for side in sides for place in side.places()} - {None})
    inner = [sign for sign in signs if levels > 1 and sign[1] > 0]
    name, count = dice.choice(inner or [sign for sign in signs if sign[1] == 0] or [("o", 0)])
    return Term(name, *[even_start(dice, book, levels - 1) for _ in range(count)])


def new_lots(dice, book, start, many):
    """Lots of one step each, which was not there ahead of the one before it, if there is such a step."""
    lots, term, there = [], start, []
    for _ in range(many):
        steps = steps_by_words(book, term)
        fresh = [place for place in steps if place not in there] or steps
        if not fresh or term.size() > 60:
            break
        lots.append((dice.choice(fresh),))
        there = images_after(book, term, steps, [lots[-1]])
        term = done_by_words(book, term, lots[-1])
    return lots


def even_ways(many, seed, most=7):
    """Random ways of even books that have from one event to so many, mostly some."""
    dice = random.Random(seed)
    found = []
    while len(found) < many:
        book = dice.choice(EVENS)
        start = dice.choice((random_term, even_start))(dice, book, dice.randint(2, 7))
        if start.size() <= 40 and steps_by_words(book, start):
            lots = dice.choice((random_lots, few_lots, new_lots, new_lots))(dice, book, start, dice.randint(1, 6))
            if dice.choice((1, 3, 4, 4, 5)) <= sum(map(len, lots)) <= most:
                found.append(Way(book, start, lots))
    return found


def extent_by_words(way, part):
    """[34]: the events of a way for which nothing is left after what is left of a part after the events ahead."""
    found, term, rest = [], way.start, part.lots()
    for event, lot in enumerate(singles_by_words(way.lots())):
        if not images_after(way.book, term, lot, rest):
            found.append(event)
        rest = left_way_by_words(way.book, term, rest, [lot])
        term = done_by_words(way.book, term, lot)
    return tuple(found)


def extents_by_words(way):
    """The extents of all parts of a way, in their order."""
    return [extent_by_words(way, part) for part in parts(way)]


def causes_by_words(extents, event):
    """[34]: the events in the extent of each part in whose extent the event is."""
    rows = [set(extent) for extent in extents if event in extent]
    return tuple(sorted(set.intersection(*rows) - {event}))


def orders_by_words(before):
    """All orders of events with these causes, ascending."""
    found, begun = [], [()]
    while begun:
        row = begun.pop()
        if len(row) == len(before):
            found.append(row)
        begun += [row + (event,) for event in range(len(before)) if event not in row and set(before[event]) <= set(row)]
    return sorted(found)


def beside(many, word="a"):
    """The way that does so many steps at once that have nothing to do with one another."""
    rows = [Term("f", *[Term(word)] * min(4, many - at)) for at in range(0, many, 4)]
    while len(rows) > 4:
        rows = [Term("f", *rows[at:at + 4]) for at in range(0, len(rows), 4)]
    start = Term("f", *rows)
    return Way(EVENS[4], start, [[place for place in start.places() if start.sub(place).word == word]])


def one_behind_another(many):
    """A way of so many steps, each of which needs the one ahead."""
    return Way(Book.read("1 ring -> ring\n"), Term("ring"), [[()]] * many)
