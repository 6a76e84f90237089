"""Where to look first: doers, split books and trees of looks."""

from remainways.errors import NoTree, NotSplit, UnknownDoer
from remainways.places import TOP
from remainways.terms import Term, find_sub, walk
from remainways.words import BLANK


def doers(book):
    """The ascending list of the doers."""
    return sorted(set([rule.left.sign() for rule in book]))


def check_split(book):
    """Raises the error for the least doer beneath the top of a left side, if there is one."""
    signs = doers(book)
    for at, rule in enumerate(book):
        for place, part in walk(rule.left):
            if place != TOP and part.sign() in signs:
                raise NotSplit(at, place)


def tree(book, doer):
    """The tree of looks of a doer."""
    check_doer(book, doer)
    return tree_of_doer(book, doer)


def stuck(book, doer):
    """None if a doer has a tree; otherwise the tuple (sides, piece, rows) of the rules that are stuck first."""
    check_doer(book, doer)
    rules = book.rules()
    found, stopped = grown(rules, book.rules_for(doer), unseen(doer))
    if stopped is None:
        return None
    sides, piece = stopped
    return (sides, piece, [(place, silent_at(rules, sides, place)[0]) for place in open_places(piece)])


def check_doer(book, value):
    """Raises the errors for a book that is not split, and for any value that is no doer."""
    check_split(book)
    if not book.rules_for(value):
        raise UnknownDoer(value)


def tree_of_doer(book, doer):
    """The tree of a doer of a split book; raises the error if there is none."""
    found, stopped = grown(book.rules(), book.rules_for(doer), unseen(doer))
    if stopped is not None:
        sides, piece = stopped
        raise NoTree(doer, sides, piece)
    return found


def unseen(sign):
    """The piece of which the sign at the top alone was seen."""
    blanks = [Term(BLANK) for number in range(sign[1])]
    return Term(sign[0], *blanks)


def grown(rules, candidates, piece):
    """The pair of the tree of candidates of which a piece was seen, and None.

    If some of them are stuck, the pair of None and the pair of these rules, the first ones, and the piece then.
    """
    place = asked_by_all(rules, candidates, piece)
    if place is None:
        stopped = (tuple(candidates), piece)
        return (("rule", candidates[0]), None) if len(candidates) == 1 else (None, stopped)
    branches = []
    for sign in sorted(set([rules[index].left.sub(place).sign() for index in candidates])):
        kept = [index for index in candidates if rules[index].left.sub(place).sign() == sign]
        inner, stopped = grown(rules, kept, piece.with_sub(place, unseen(sign)))
        if stopped is not None:
            return None, stopped
        branches.append((sign, inner))
    return ("look", place, tuple(branches)), None


def asked_by_all(rules, candidates, piece):
    """The first open place at which all candidates ask, None if there is none."""
    for place in open_places(piece):
        if not silent_at(rules, candidates, place):
            return place
    return None


def open_places(piece):
    """The ascending list of the open places behind a piece that was seen."""
    return [place for place, part in walk(piece) if part.word == BLANK]


def silent_at(rules, candidates, place):
    """The list of those candidates that do not ask at an open place."""
    return [index for index in candidates if find_sub(rules[index].left, place).sign() is None]
