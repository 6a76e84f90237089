"""Rules: a left side, a right side and a due."""

from remainways.errors import InvalidDue, InvalidSide, LooseHole, TooMany, TwiceHole
from remainways.terms import Term, walk
from remainways.words import is_hole, is_number

MOST_SIDE = 24
GREATEST_DUE = 10 ** 30 - 1


class Rule:
    """A rule, which never changes."""

    def __init__(self, left, right, *, due=1):
        check_sides(left, right)
        check_holes(left, right)
        if not is_number(due, 0, GREATEST_DUE):
            raise InvalidDue(due)
        self.left = left
        self.right = right
        self.due = due
        self._left_holes = holes_by_places(left)
        self._right_holes = holes_by_places(right)

    def copies(self):
        """Whether a hole stands twice or more in the right side."""
        return len(self._right_holes) > len(self.right.holes())

    def strikes(self):
        """Whether a hole of the left side does not stand in the right side."""
        return len(self._left_holes) > len(self.right.holes())

    def times(self, hole):
        """How often a hole stands in the right side, 0 for any other value."""
        return len(self.hole_places(hole))

    def hole_places(self, hole):
        """The ascending list of the places of a hole in the right side, [] for any other value."""
        if not is_hole(hole):
            return []
        return [place for place, other in self._right_holes if other == hole]

    def left_holes(self):
        """The ascending list of the pairs of a place of the left side that has a hole, and this hole."""
        return list(self._left_holes)

    def text(self):
        """The text of the rule."""
        return f"{self.due} {self.left.text()} -> {self.right.text()}"

    def __eq__(self, other):
        if not isinstance(other, Rule):
            return False
        return self.left == other.left and self.right == other.right and self.due == other.due

    def __str__(self):
        return str(self.text())

    def __repr__(self):
        return f"Rule({self.left.text()} -> {self.right.text()})"


def check_sides(left, right):
    """Raises the errors for sides that are none by their kind or by their size."""
    if not is_left_side(left):
        raise InvalidSide("left")
    if not isinstance(right, Term) or not right.is_pattern():
        raise InvalidSide("right")
    if left.size() > MOST_SIDE or right.size() > MOST_SIDE:
        raise TooMany(MOST_SIDE)


def is_left_side(value):
    """Whether any value is a pattern that begins with a name."""
    return isinstance(value, Term) and value.is_pattern() and value.sign() is not None


def check_holes(left, right):
    """Raises the errors for a hole that stands twice on the left, or on the right alone."""
    met = {}
    for place, hole in holes_by_places(left):
        if hole in met:
            raise TwiceHole(hole)
        met[hole] = place
    for place, hole in holes_by_places(right):
        if hole not in met:
            raise LooseHole(hole)


def holes_by_places(side):
    """The ascending list of the pairs of a place that has a hole, and this hole."""
    return [(place, part.word) for place, part in walk(side) if is_hole(part.word)]
