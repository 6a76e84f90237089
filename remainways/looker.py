"""Looking papers over, line by line."""

from remainways.errors import InvalidText, NoStep, TooGreat
from remainways.papers import rest_lines, squares_lines, why_lines
from remainways.pieces import is_piece_of
from remainways.rests import MOST_ROUNDS
from remainways.steps import is_start
from remainways.terms import Term
from remainways.ways import Way


def first_wrong(book, value):
    """The index of the first wrong line of any value, None if there is none."""
    if not isinstance(value, (list, tuple)) or len(value) == 0:
        return 0
    wanted = wanted_lines(book, value)
    for at, line in enumerate(wanted):
        if at == len(value) or line is None or value[at] != line:
            return at
    return len(wanted) if len(value) > len(wanted) else None


def wanted_lines(book, value):
    """The lines that a paper must have that begins as a list does.

    None stands for a line that is given but cannot stand, or that no line can be right for; it is the last one then.
    """
    start = given_start(given(value, 1, "start"))
    if value[0] not in ["squares", "why", "rest"]:
        return [None]
    if start is None:
        return [value[0], None]
    if value[0] == "squares":
        return wanted_squares(book, start, value)
    if value[0] == "why":
        return wanted_why(book, start, value)
    rounds = given_rounds(given(value, 2, "rounds"))
    return [*value[:2], None] if rounds is None else rest_lines(book, start, rounds)


def wanted_squares(book, start, value):
    """The lines of a paper of two ways from a start."""
    one = given_way(book, start, given(value, 2, "one"))
    if one is None:
        return [*value[:2], None]
    other = given_way(book, start, given(value, 3, "other"))
    return [*value[:3], None] if other is None else squares_lines(one, other)


def wanted_why(book, start, value):
    """The lines of a paper of a way from a start and a piece of its end."""
    way = given_way(book, start, given(value, 2, "way"))
    if way is None:
        return [*value[:2], None]
    piece = given_piece(way, given(value, 3, "piece"))
    return [*value[:3], None] if piece is None else why_lines(way, piece)


def given(value, at, word):
    """What stands behind a word in the line with an index, None if no such line is there."""
    if at >= len(value) or not isinstance(value[at], str) or not value[at].startswith(word + " "):
        return None
    return value[at][len(word) + 1:]


def given_start(text):
    """The start with a text, None for any value that is no text of one."""
    try:
        term = Term.read(text)
    except (InvalidText, TooGreat):
        return None
    return term if is_start(term) else None


def given_way(book, start, text):
    """The way with just this text, None for any value that is no text of one."""
    try:
        way = Way.read(book, start, text)
    except (InvalidText, NoStep, TooGreat):
        return None
    return way if way.text() == text else None


def given_piece(way, text):
    """The piece of the end of a way with a text, None for any value that is no text of one."""
    try:
        piece = Term.read(text)
    except (InvalidText, TooGreat):
        return None
    return piece if is_piece_of(piece, way.end) else None


def given_rounds(text):
    """The number of rounds with a text, None for any value that is no text of one."""
    for rounds in range(1, MOST_ROUNDS + 1):
        if text == str(rounds):
            return rounds
    return None
