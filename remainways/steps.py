"""Step places: where rules of a book fit, and lots of such places."""

from remainways.errors import InvalidLot, InvalidTerm, NoStep
from remainways.terms import Term, find_sub, walk


def rule_at(book, term, place):
    """The index of the rule that fits at a place, None if there is none or for any value that is no place."""
    check_start(term)
    return index_at(book, term, place)


def step_places(book, term):
    """The ascending list of the step places."""
    check_start(term)
    return [place for place, index in steps_of(book, term)]


def walk_steps(book, term):
    """The pairs (place, rule index) of all step places, ascending, one after the other."""
    check_start(term)
    yield from steps_of(book, term)


def lot_of(book, term, lot):
    """The lot of a term as a tuple, from a list or tuple of its places."""
    check_start(term)
    return tuple(lot_rules(book, term, lot, 0))


def check_start(value):
    """Raises the error for any value that is no start."""
    if not is_start(value):
        raise InvalidTerm()


def is_start(value):
    """Whether any value is a term that is a start."""
    return isinstance(value, Term) and value.is_plain() and value.is_fit()


def lot_rules(book, term, lot, at):
    """A lot of a plain term as a dict from its places, ascending, to the rules that fit there.

    Raises the errors of a lot that has the index at.
    """
    if not isinstance(lot, (list, tuple)):
        raise InvalidLot(at)
    rules = book.rules()
    found = {}
    for place in lot:
        index = index_at(book, term, place)
        if index is None:
            raise NoStep(at, place)
        found[place] = rules[index]
    return {place: found[place] for place in sorted(found)}


def check_step(book, term, value):
    """Raises the error for any value that is no step place of a plain term."""
    if index_at(book, term, value) is None:
        raise NoStep(0, value)


def index_at(book, term, place):
    """The index of the rule that fits at a place of a plain term, or None, also for any value that is no place."""
    part = find_sub(term, place)
    return None if part is None else fitting(book, part)


def steps_of(book, term):
    """The ascending list of the pairs (place, rule index) of the step places of a plain term."""
    found = [(place, fitting(book, part)) for place, part in walk(term)]
    return [(place, index) for place, index in found if index is not None]


def fitting(book, term):
    """The index of the rule that fits at the top of a plain term, or None."""
    rules = book.rules()
    for index in book.rules_for(term.sign()):
        if is_fitting(rules[index].left, term):
            return index
    return None


def is_fitting(left, term):
    """Whether a plain term has the same sign at each place of a name of a left side."""
    waiting = [(left, term)]
    while waiting:
        side, part = waiting.pop()
        if side.sign() is not None:
            if side.sign() != part.sign():
                return False
            waiting.extend(list(zip(side.parts(), part.parts())))
    return True
