"""Places of terms, and the texts of places and lots."""

from remainways.words import is_number

TOP = ()
DIGITS = ("1", "2", "3", "4")


def is_place(value):
    """Whether any value is a place."""
    return isinstance(value, tuple) and all([is_number(item, 1, 4) for item in value])


def is_beneath(place, other):
    """Whether a place is beneath another one."""
    return len(place) > len(other) and place[:len(other)] == other


def place_text(place):
    """The text of a place."""
    return ".".join([str(number) for number in place]) or "."


def read_place(text):
    """The place with a text, None for any value that is none."""
    if not isinstance(text, str):
        return None
    end, place = scan_place(text, 0)
    return place if end == len(text) else None


def scan_place(text, at):
    """The pair of where the text of a place that begins at an index ends, and this place.

    If none stands there, the pair of the index of the first character that cannot stand, and None.
    """
    if text[at:at + 1] == ".":
        return at + 1, TOP
    numbers = []
    while text[at:at + 1] in DIGITS:
        numbers.append(int(text[at]))
        if text[at + 1:at + 2] != ".":
            return at + 1, tuple(numbers)
        at = at + 2
    return at, None


def lot_text(lot):
    """The text of a list or tuple of places, in any order, which may stand several times."""
    return "+".join([place_text(place) for place in sorted(set(lot))]) or "0"
