"""Gaps: pieces on which no rule of a doer fits, however their blanks are filled."""

from remainways.books import is_sign
from remainways.errors import InvalidMaker
from remainways.looks import doers, tree, unseen


def gaps(book, doer, makers):
    """The list of the gaps of a doer for a list of makers."""
    found = tree(book, doer)
    check_makers(book, makers)
    return gaps_in(found, unseen(doer), makers)


def check_makers(book, values):
    """Raises the error for the first item that is no sign, that is a doer, or that stands ahead."""
    signs = doers(book)
    for at, value in enumerate(values):
        if not is_sign(value) or value in signs or value in values[:at]:
            raise InvalidMaker(at)


def gaps_in(node, piece, makers):
    """The list of the gaps of a tree, or of what is in a branch of it, where a piece was seen."""
    if node[0] == "rule":
        return []
    word, place, branches = node
    signs = [sign for sign, inner in branches]
    found = [piece.with_sub(place, unseen(sign)) for sign in makers if sign not in signs]
    for sign, inner in branches:
        found.extend(gaps_in(inner, piece.with_sub(place, unseen(sign)), makers))
    return found
