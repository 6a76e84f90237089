"""Webs: plain terms that are told by shared knots."""

from remainways.errors import InvalidKnot, InvalidTerm, NoPlace, TooGreat, TooMany
from remainways.places import is_place
from remainways.terms import MOST_LEVELS, MOST_PLACES, Term
from remainways.words import is_name, is_number

MOST_KNOTS = 2000


class Web:
    """A plain term, told by its canonical knots; it never changes."""

    def __init__(self, knots):
        check_knots(knots)
        self._knots = tuple(canonical(knots))

    @staticmethod
    def of(term):
        """The web of a term."""
        if not isinstance(term, Term) or not term.is_plain():
            raise InvalidTerm()
        return Web(knots_of(term))

    def knots(self):
        """The list of the canonical knots."""
        return list(self._knots)

    def size(self):
        """The number of the places of the term."""
        return sum(times_of_knots(self._knots))

    def count_of(self, name):
        """The number of the places with a name, 0 for any other value."""
        return sum([times for knot, times in zip(self._knots, times_of_knots(self._knots)) if knot[0] == name])

    def sub(self, place):
        """The web of the subterm at a place."""
        if not is_place(place):
            raise NoPlace(place)
        at = len(self._knots) - 1
        for number in place:
            if number >= len(self._knots[at]):
                raise NoPlace(place)
            at = self._knots[at][number]
        return Web(self._knots[:at + 1])

    def told(self):
        """The term."""
        if not are_fit(self._knots):
            raise TooGreat()
        made = []
        for knot in self._knots:
            parts = [made[at] for at in knot[1:]]
            made.append(Term(knot[0], *parts))
        return made[-1]

    def __eq__(self, other):
        return isinstance(other, Web) and self._knots == other._knots

    def __len__(self):
        return len(self._knots)

    def __bool__(self):
        return True

    def __repr__(self):
        return f"Web({len(self._knots)} knots)"


def check_knots(knots):
    """Raises the errors of the constructor of webs."""
    if not isinstance(knots, (list, tuple)):
        raise InvalidKnot(-1)
    if len(knots) == 0:
        raise InvalidKnot(0)
    if len(knots) > MOST_KNOTS:
        raise TooMany(MOST_KNOTS)
    for at, knot in enumerate(knots):
        if not is_knot(knot, at):
            raise InvalidKnot(at)


def is_knot(value, at):
    """Whether any value is a knot that stands behind so many others."""
    if not isinstance(value, tuple) or not 1 <= len(value) <= 5 or not is_name(value[0]):
        return False
    return all([is_number(item, 0, at - 1) for item in value[1:]])


def canonical(knots):
    """The list of the canonical knots of the term that the last one of a list of knots tells."""
    numbers = []
    known = {}
    for knot in knots:
        # Equal subterms have one number, that of the first knot that tells them.
        told = (knot[0], tuple([numbers[at] for at in knot[1:]]))
        if told not in known:
            known[told] = len(numbers)
        numbers.append(known[told])
    made = {}
    found = []
    waiting = [numbers[-1]]
    while waiting:
        number = waiting[-1]
        inner = [numbers[at] for at in knots[number][1:]]
        ahead = [part for part in inner if part not in made]
        if ahead:
            waiting.append(ahead[0])
        else:
            made[number] = len(found)
            found.append((knots[number][0], *[made[part] for part in inner]))
            waiting.pop()
    return found


def knots_of(term):
    """The list of the canonical knots of a plain term; raises the error if there are too many."""
    made = {}
    known = {}
    waiting = [term]
    while waiting:
        part = waiting[-1]
        ahead = [inner for inner in part if inner.mark not in made]
        if ahead:
            waiting.append(ahead[0])
        else:
            knot = (part.word, *[made[inner.mark] for inner in part])
            if knot not in known:
                if len(known) == MOST_KNOTS:
                    raise TooMany(MOST_KNOTS)
                known[knot] = len(known)
            made[part.mark] = known[knot]
            waiting.pop()
    return list(known)


def times_of_knots(knots):
    """The list of the numbers of places at which the subterm of each canonical knot stands."""
    times = [0 for knot in knots]
    times[-1] = 1
    for at in range(len(knots) - 1, -1, -1):
        for inner in knots[at][1:]:
            times[inner] = times[inner] + times[at]
    return times


def are_fit(knots):
    """Whether the term of canonical knots is fit, counted ahead of forming it."""
    levels = []
    for knot in knots:
        levels.append(1 + max([levels[at] for at in knot[1:]], default=0))
    return levels[-1] <= MOST_LEVELS and sum(times_of_knots(knots)) <= MOST_PLACES
