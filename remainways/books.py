"""Books: lists of rules of which no left side stands on another one."""

from remainways.errors import InvalidRule, InvalidText, Overlaps, TooMany
from remainways.places import TOP
from remainways.rules import Rule
from remainways.terms import Term, find_sub, is_lower, scan_term, walk
from remainways.words import BLANK, is_name, is_number

MOST_RULES = 24
DUE_FIGURES = 30
FIGURES = ("0", "1", "2", "3", "4", "5", "6", "7", "8", "9")


class Book:
    """A list of rules without overlaps, which never changes."""

    def __init__(self, *rules):
        check_rules(rules)
        check_overlaps(rules)
        self._rules = rules
        signs = [rule.left.sign() for rule in rules]
        self._indexes = {sign: [at for at, other in enumerate(signs) if other == sign] for sign in signs}

    def rules(self):
        """The list of the rules."""
        return list(self._rules)

    def rules_for(self, sign):
        """The ascending list of the indexes of the rules with this sign at the top of their left sides."""
        return list(self._indexes.get(sign, [])) if is_sign(sign) else []

    def first_striking(self):
        """The index of the first rule that strikes, or None."""
        for at, rule in enumerate(self._rules):
            if rule.strikes():
                return at
        return None

    def first_copying(self):
        """The index of the first rule that copies, or None."""
        for at, rule in enumerate(self._rules):
            if rule.copies():
                return at
        return None

    def is_even(self):
        """Whether no rule copies and none strikes."""
        return self.first_striking() is None and self.first_copying() is None

    def with_rule(self, rule):
        """The book with one more rule behind the others."""
        return Book(*self._rules, rule)

    def text(self):
        """The text of the book."""
        return "".join([rule.text() + "\n" for rule in self._rules])

    @staticmethod
    def read(text):
        """The book with a text."""
        if not isinstance(text, str):
            raise InvalidText(0, 0)
        rows = []
        for at, line in enumerate(lines_of(text)):
            end, row = scan_rule(line)
            if row is None or end < len(line):
                raise InvalidText(at, end)
            rows.append(row)
        rules = [Rule(left, right, due=due) for due, left, right in rows]
        return Book(*rules)

    def __add__(self, other):
        return self.with_rule(other)

    def __iter__(self):
        return iter(self._rules)

    def __eq__(self, other):
        return isinstance(other, Book) and self._rules == other._rules

    def __len__(self):
        return len(self._rules)

    def __bool__(self):
        return True

    def __str__(self):
        return str(self.text())

    def __repr__(self):
        return f"Book({len(self._rules)} rules)"


def is_sign(value):
    """Whether any value is a sign."""
    return isinstance(value, tuple) and len(value) == 2 and is_name(value[0]) and is_number(value[1], 0, 4)


def check_rules(values):
    """Raises the errors for values that are no rules, or too many."""
    for at, value in enumerate(values):
        if not isinstance(value, Rule):
            raise InvalidRule(at)
    if len(values) > MOST_RULES:
        raise TooMany(MOST_RULES)


def check_overlaps(rules):
    """Raises the error for the least overlap, if there is one."""
    for at, one in enumerate(rules):
        named = [(place, part) for place, part in walk(one.left) if part.sign() is not None]
        for index, other in enumerate(rules):
            for place, part in named:
                itself = at == index and place == TOP
                if not itself and is_joinable(part, other.left):
                    raise Overlaps(at, index, place, overlap_piece(one, other, place))


def stand_on(one, other, place):
    """Whether the left side of a rule stands on that of another one at a place.

    False for any value that is no place of a name of the left side of the one.
    """
    below = find_sub(one.left, place)
    return below is not None and below.sign() is not None and is_joinable(below, other.left)


def is_joinable(one, other):
    """Whether the signs of two patterns are the same wherever both have a name."""
    waiting = [(one, other)]
    while waiting:
        left, right = waiting.pop()
        if left.sign() is not None and right.sign() is not None:
            if left.sign() != right.sign():
                return False
            waiting.extend(list(zip(left.parts(), right.parts())))
    return True


def overlap_piece(one, other, place):
    """The least piece on which both left sides stand, the other one at this place of the one."""
    below = joined_names(one.left.sub(place), other.left)
    return without_holes(one.left).with_sub(place, below)


def joined_names(one, other):
    """The piece that has a name where one of two patterns that can be joined has one."""
    if one.sign() is None or other.sign() is None:
        return without_holes(other if one.sign() is None else one)
    parts = [joined_names(left, right) for left, right in zip(one.parts(), other.parts())]
    return Term(one.word, *parts)


def without_holes(side):
    """The pattern with blanks instead of its holes."""
    if side.sign() is None:
        return Term(BLANK)
    parts = [without_holes(part) for part in side.parts()]
    return Term(side.word, *parts)


def lines_of(text):
    """The list of the lines of a text, with their line feeds; the last one may lack it."""
    rows = text.split("\n")
    lines = [row + "\n" for row in rows[:-1]]
    return (lines + [rows[-1]]) if rows[-1] else lines


def scan_rule(line):
    """The pair of the number of characters of a line of a book that can stand, and what it says.

    What it says is the tuple (due, left side, right side), None if a character cannot stand or lacks.
    """
    at, due = scan_due(line)
    if due is None:
        return at, None
    at, left = scan_left(line, at)
    if left is None:
        return at, None
    at, right = scan_pattern(line, at, " -> ")
    if right is None:
        return at, None
    end = scan_words(line, at, "\n")
    return end, ((due, left, right) if end > at else None)


def scan_due(line):
    """The pair of where the due at the beginning of a line ends, and this due; None if there is none."""
    if line[:1] == "0":
        return 1, 0
    at = 0
    while at < DUE_FIGURES and line[at:at + 1] in FIGURES:
        at = at + 1
    return at, (int(line[:at]) if at else None)


def scan_left(line, at):
    """The pair of where a left side ends that stands behind a space, and this side, or None."""
    end = scan_words(line, at, " ")
    if end == at or not is_lower(line[end:end + 1]):
        return end, None
    return scan_term(line, end, False)


def scan_pattern(line, at, words):
    """The pair of where a pattern ends that stands behind these words, and this pattern, or None."""
    end = scan_words(line, at, words)
    if end < at + len(words):
        return end, None
    return scan_term(line, end, False)


def scan_words(line, at, words):
    """Where these words end that begin at an index, or the index of the first character that is another one."""
    many = 0
    while many < len(words) and line[at + many:at + many + 1] == words[many]:
        many = many + 1
    return at + many
