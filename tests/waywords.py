"""The document's definitions of ways, told once more: squares, layers, works, pieces, rests.

As in tests/helper.py they follow the words, point by point, with no regard to speed. A way is told here by a book, a
start and a list of lots; terms have no bound.
"""

import random

from remainways.books import Book
from remainways.rules import Rule
from remainways.terms import Term
from remainways.ways import Way
from tests.helper import BOOKS, cases, done_by_words, left_by_words, nested, part_of, steps_by_words


def random_lots(dice, book, start, many, most=60):
    """Lots that can be done one after another, by the definitions; each term has at most so many places."""
    lots, term = [], start
    for _ in range(many):
        lot = part_of(dice, steps_by_words(book, term)) if dice.random() < 0.9 else []
        behind = done_by_words(book, term, lot)
        if behind.size() > most:
            break
        lots.append(tuple(sorted(lot)))
        term = behind
    return lots


def few_lots(dice, book, start, many, most=60):
    """Likewise, with one place or two in each lot."""
    lots, term = [], start
    for _ in range(many):
        steps = steps_by_words(book, term)
        lot = dice.sample(steps, min(len(steps), dice.choice((1, 1, 1, 2))))
        behind = done_by_words(book, term, lot)
        if behind.size() > most:
            break
        lots.append(tuple(sorted(lot)))
        term = behind
    return lots


def random_ways(many, seed, count=2, most_lots=3, most_steps=6, most_size=30, books=None):
    """Random lists of so many ways from one start each, of a book."""
    dice = random.Random(seed)
    found = []
    for book, start, steps in cases(many, seed, most_steps, most_size):
        if books is None or book in books:
            draw = [dice.choice((random_lots, few_lots)) for _ in range(count)]
            found.append([Way(book, start, make(dice, book, start, dice.randint(0, most_lots))) for make in draw])
    return found


def terms_by_words(book, start, lots):
    """[14]: the terms of a way."""
    found = [start]
    for lot in lots:
        found.append(done_by_words(book, found[-1], lot))
    return found


def squares_by_words(book, start, lots, others):
    """[15]: corners, lots down and lots across, by their indexes."""
    corners = {(0, at): term for at, term in enumerate(terms_by_words(book, start, others))}
    corners.update({(at, 0): term for at, term in enumerate(terms_by_words(book, start, lots))})
    downs = {(at, 0): lot for at, lot in enumerate(lots)}
    acrosses = {(0, at): lot for at, lot in enumerate(others)}
    for i in range(len(lots)):
        for j in range(len(others)):
            term, down, across = corners[i, j], downs[i, j], acrosses[i, j]
            downs[i, j + 1] = left_by_words(book, term, down, across)
            acrosses[i + 1, j] = left_by_words(book, term, across, down)
            corners[i + 1, j + 1] = done_by_words(book, corners[i + 1, j], acrosses[i + 1, j])
            if corners[i + 1, j + 1] != done_by_words(book, corners[i, j + 1], downs[i, j + 1]):
                raise AssertionError("a corner is not reached by both lots")
    return corners, downs, acrosses


def left_way_by_words(book, start, lots, others):
    """[15]: the lots of what is left of a way after another one."""
    downs = squares_by_words(book, start, lots, others)[1]
    return [downs[at, len(others)] for at in range(len(lots))]


def within_by_words(book, start, lots, others):
    """[16]: whether a way is within another one."""
    return all(lot == () for lot in left_way_by_words(book, start, lots, others))


def alike_by_words(book, start, lots, others):
    """[16]: whether two ways are the same work."""
    return within_by_words(book, start, lots, others) and within_by_words(book, start, others, lots)


def images_after(book, start, lot, lots):
    """[15]: what is left of a lot after a way."""
    term = start
    for other in lots:
        lot = left_by_words(book, term, lot, other)
        term = done_by_words(book, term, other)
    return tuple(sorted(lot))


def first_layer_by_words(book, start, lots):
    """[18]: the step places of the start of which nothing is left."""
    return tuple(place for place in steps_by_words(book, start) if not images_after(book, start, [place], lots))


def layers_by_words(book, start, lots):
    """[18]: the layers."""
    if not any(lots):
        return []
    layer = first_layer_by_words(book, start, lots)
    rest = left_way_by_words(book, start, lots, [layer])
    return [layer] + layers_by_words(book, done_by_words(book, start, layer), rest)


def key_by_words(lots):
    """[10], [14]: the text of a way with these lots."""
    texts = ["+".join(".".join(map(str, place)) or "." for place in lot) or "0" for lot in lots]
    return ";".join(texts) or "-"


def difference_by_words(book, start, lots, others):
    """[19]: the difference of two unlike ways."""
    rows = [layers_by_words(book, start, row) for row in (lots, others)]
    at = 0
    while rows[0][at:at + 1] == rows[1][at:at + 1]:
        at += 1
    layers = [row[at] if at < len(row) else () for row in rows]
    which = 0 if set(layers[0]) - set(layers[1]) else 1
    place = min(set(layers[which]) - set(layers[1 - which]))
    term = terms_by_words(book, start, rows[0][:at])[-1]
    return at, which, place, images_after(book, term, [place], rows[1 - which][at:])


def singles_by_words(lots):
    """[20]: the lots of a way in single steps."""
    return [(place,) for lot in lots for place in sorted(lot, reverse=True)]


def common_by_words(book, start, lots, others):
    """[21]: the lots of the common past."""
    both = set(first_layer_by_words(book, start, lots)) & set(first_layer_by_words(book, start, others))
    if not both:
        return []
    lot = tuple(sorted(both))
    rests = [left_way_by_words(book, start, row, [lot]) for row in (lots, others)]
    return [lot] + common_by_words(book, done_by_words(book, start, lot), *rests)


def without_by_words(book, start, lots, barred):
    """[22]: the lots of a way with places of the start taken out."""
    lot = tuple(place for place in first_layer_by_words(book, start, lots) if place not in barred)
    if not lot:
        return []
    rest = left_way_by_words(book, start, lots, [lot])
    behind = done_by_words(book, start, lot)
    return [lot] + without_by_words(book, behind, rest, left_by_words(book, start, barred, lot))


def strangers(way):
    """Ways with another book, another start, or both."""
    rule = Rule(Term("strange"), Term("o"))
    book, start = way.book.with_rule(rule), Term("s", way.start)
    return [Way(book, way.start), Way(way.book, start), Way(book, start), Way(book, way.start, way.lots())]


def twin_of(way):
    """An equal way that shares nothing with a way."""
    return Way.read(Book.read(way.book.text()), Term.read(way.start.text()), way.text())


# A book whose ways meet terms that are not fit: what was doubled is struck again.
STRIKING = Book.read("1 two(X) -> pair(X,X)\n1 c -> k\n1 h(k,X) -> o\n")


def great_start(many):
    """A start of STRIKING with so many doublings that are struck in the end."""
    return Term("h", Term("c"), nested("two", many, Term("o")))


def chain(many):
    """So many doublings, one beneath the other, of the third of the BOOKS."""
    return nested("two", many, Term("o"))


def upper(many, count):
    """The way that does the upper doublings of a chain at once."""
    return Way(BOOKS[2], chain(many), [[(1,) * at for at in range(count)]])


def lower(many, count):
    """The way that does the lower doublings of a chain one by one, the lowest first."""
    return Way(BOOKS[2], chain(many), [[(1,) * at] for at in range(many - 1, many - 1 - count, -1)])
