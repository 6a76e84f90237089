"""Trails: steps in even books, where each sign stays what it is, wherever it moves."""

# What brought the signs of the start, which is no event.
START = -1


class Trail:
    """A term of an even book on which events are done, one after another, each at its sign.

    A sign is told by the pair of the event that brought it and its place in the right side, or in the start. It has
    two sets of events, as numbers with a bit for each event: those without which it is not there, and those without
    which it does not stand right beneath the sign above it, as what stood between them was taken away by them.
    """

    def __init__(self, book, start):
        self._book = book
        self._rules = book.rules()
        self._names = {}
        self._below = {}
        self._above = {}
        self._brought = {}
        self._joints = {}
        self._top = self._grown(start, (), START, 0, {})
        self._above[self._top] = None

    def sign_at(self, place):
        """The sign that stands at a place now."""
        found = self._top
        for number in place:
            found = self._below[found][number - 1]
        return found

    def place_of(self, sign):
        """The place at which a sign stands now."""
        numbers = []
        above = self._above[sign]
        while above is not None:
            numbers.append(above[1])
            above = self._above[above[0]]
        return tuple(numbers[::-1])

    def do(self, sign, event):
        """Does an event at a sign; the set of its causes, as a number with a bit for each of them."""
        rule = self._fitting(sign)
        causes, held = self._needed(rule.left, sign)
        own = causes | 1 << event
        above = self._above[sign]
        joint = self._joints[sign]
        top = self._grown(rule.right, (), event, own, held)
        self._joints[top] = self._joints[top] | joint
        self._above[top] = above
        if above is None:
            self._top = top
        else:
            self._below[above[0]][above[1] - 1] = top
        return causes

    def _grown(self, side, place, event, own, held):
        """The sign at the top of a side, at a place of it, that an event brings with the contents of its holes."""
        if side.sign() is None:
            sign = held[side.word]
            self._joints[sign] = self._joints[sign] | own
            return sign
        sign = (event, place)
        parts = [self._grown(part, place + (at,), event, own, held) for at, part in enumerate(side, start=1)]
        self._names[sign] = side.sign()
        self._below[sign] = parts
        self._brought[sign] = own
        self._joints[sign] = own
        for at, part in enumerate(parts, start=1):
            self._above[part] = (sign, at)
        return sign

    def _needed(self, left, sign):
        """The pair of the events without which a left side does not fit at a sign, and the contents of its holes."""
        causes = self._brought[sign]
        held = {}
        waiting = [(left, sign)]
        while waiting:
            side, inner = waiting.pop()
            if side.sign() is None:
                held[side.word] = inner
            else:
                causes = causes | self._brought[inner]
                below = [row for row in zip(side, self._below[inner])]
                for part, beneath in below:
                    if part.sign() is not None:
                        causes = causes | self._joints[beneath]
                waiting.extend(below)
        return causes, held

    def _fitting(self, sign):
        """The rule that fits at a sign."""
        for index in self._book.rules_for(self._names[sign]):
            if self._is_fitting(self._rules[index].left, sign):
                return self._rules[index]
        return None

    def _is_fitting(self, left, sign):
        """Whether the signs of a left side stand at a sign and beneath it."""
        if left.sign() is None:
            return True
        if left.sign() != self._names[sign]:
            return False
        return all([self._is_fitting(part, inner) for part, inner in zip(left, self._below[sign])])


def trail_of(way):
    """The list of the pairs of the sign and the causes of each event of a way, the causes as for Trail.do."""
    trail = Trail(way.book, way.start)
    found = []
    for place in step_row(way):
        sign = trail.sign_at(place)
        found.append((sign, trail.do(sign, len(found))))
    return found


def step_row(way):
    """The list of the places of the way in single steps."""
    return [place for lot in way.lots() for place in reversed(lot)]
