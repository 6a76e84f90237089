"""The next step by looking first where all rules ask."""

from remainways.errors import InvalidNumber
from remainways.looks import check_split, doers, tree_of_doer
from remainways.places import TOP
from remainways.steps import check_start
from remainways.terms import walk
from remainways.ways import Way
from remainways.words import is_number

MOST_LOOKS = 400


def next_place(book, term):
    """The next place, or None."""
    check_start(term)
    return next_in(trees_of(book), term)


def is_blocked(book, term):
    """Whether the top of a term is a doer and it is blocked."""
    check_start(term)
    trees = trees_of(book)
    return term.sign() in trees and place_found(trees, term) is None


def by_looks(book, term, *, most=200):
    """The way of single steps that does the next place, until there is none or so many were done."""
    check_start(term)
    trees = trees_of(book)
    if not is_number(most, 0, MOST_LOOKS):
        raise InvalidNumber(most)
    way = Way(book, term)
    while len(way) < most:
        place = next_in(trees, way.end)
        if place is None:
            return way
        way = way.with_lot([place])
    return way


def trees_of(book):
    """A dict from the doers to their trees; raises the errors for a book without all of them."""
    check_split(book)
    return {doer: tree_of_doer(book, doer) for doer in doers(book)}


def next_in(trees, term):
    """The next place of a term, or None."""
    for place, part in walk(term):
        if part.sign() in trees:
            found = place_found(trees, part)
            if found is not None:
                return place + found
    return None


def place_found(trees, term):
    """The place that is found where a term whose top is a doer is looked through, None if it is blocked."""
    place = TOP
    part = term
    node = trees[part.sign()]
    while node[0] == "look":
        word, spot, branches = node
        beside = {sign: inner for sign, inner in branches}
        inner_part = part.sub(spot)
        sign = inner_part.sign()
        if sign in beside:
            node = beside[sign]
        elif sign in trees:
            # What is found in a doer is found in what is above it, and so is that it is blocked.
            place = place + spot
            part = inner_part
            node = trees[sign]
        else:
            return None
    return place
