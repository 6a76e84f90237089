"""Trails: steps in even books, where each sign stays what it is, wherever it moves."""

# What brought the signs of the start, which is no event.
START = -1


class Trail:
    """A term of an even book on which events are done, one after another, each at its sign.

    A sign is told by the pair of the event that brought it and its place in the right side, or in the start. Its joints
    are the events without which it does not stand right beneath the sign above it, as they took away what stood
    between the two.
    """

    def __init__(self, book, start):
        self._book = book
        self._rules = book.rules()
        self._names = {}
        self._under = {}
        self._above = {}
        self._joints = {}
        self._top = self._grown(start, (), START, {})
        self._above[self._top] = None

    def sign_at(self, place):
        """The sign that stands at a place now."""
        found = self._top
        for number in place:
            found = self._under[found][number - 1]
        return found

    def place_of(self, sign):
        """The place at which a sign stands now."""
        numbers = []
        above = self._above[sign]
        while above is not None:
            numbers.append(above[1])
            above = self._above[above[0]]
        return tuple(numbers[::-1])

    def do(self, sign, event):
        """Does an event at a sign; the ascending list of the events that brought its left side together.

        These are causes of the event, and all others are causes of these.
        """
        rule = self._fitting(sign)
        needed, held = self._needed(rule.left, sign)
        above = self._above[sign]
        joints = self._joints[sign]
        if rule.right.sign() is None:
            joints = joints + (event,)
        top = self._grown(rule.right, (), event, held)
        self._joints[top] = joints + self._joints[top]
        self._above[top] = above
        if above is None:
            self._top = top
        else:
            self._under[above[0]][above[1] - 1] = top
        return needed

    def _grown(self, side, place, event, held):
        """The sign at the top of a side, at a place of it, that an event brings with the contents of its holes."""
        if side.sign() is None:
            return held[side.word]
        sign = (event, place)
        parts = [self._grown(part, place + (at,), event, held) for at, part in enumerate(side, start=1)]
        self._names[sign] = side.sign()
        self._under[sign] = parts
        self._joints[sign] = ()
        for at, part in enumerate(parts, start=1):
            self._above[part] = (sign, at)
        return sign

    def _needed(self, left, sign):
        """The pair of the events that brought a left side together at a sign, and the contents of its holes."""
        events = [sign[0]]
        held = {}
        waiting = [(left, sign)]
        while waiting:
            side, inner = waiting.pop()
            if side.sign() is None:
                held[side.word] = inner
            else:
                for part, beneath in zip(side, self._under[inner]):
                    waiting.append((part, beneath))
                    if part.sign() is not None:
                        events.extend([beneath[0], *self._joints[beneath]])
        return [event for event in sorted(set(events)) if event != START], held

    def _fitting(self, sign):
        """The rule that fits at a sign."""
        for index in self._book.rules_for(self._names[sign]):
            if self._is_fitting(self._rules[index].left, sign):
                return self._rules[index]
        return None

    def _is_fitting(self, left, sign):
        """Whether the signs of a left side stand at a sign and beneath it."""
        if left.sign() is None:
            return True
        if left.sign() != self._names[sign]:
            return False
        return all([self._is_fitting(part, inner) for part, inner in zip(left, self._under[sign])])


def trail_of(way):
    """The list of the pairs of the sign of each event of a way and what Trail.do tells of it."""
    trail = Trail(way.book, way.start)
    found = []
    for place in step_row(way):
        sign = trail.sign_at(place)
        found.append((sign, trail.do(sign, len(found))))
    return found


def step_row(way):
    """The list of the places of the way in single steps."""
    return [place for lot in way.lots() for place in reversed(lot)]
