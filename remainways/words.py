"""The words of terms, and the numbers that are passed."""

BLANK = "_"


def is_name(value):
    """Whether any value is a name: 1 to 8 lowercase letters."""
    return is_letters(value, 8) and value.islower()


def is_hole(value):
    """Whether any value is a hole: 1 to 4 capital letters."""
    return is_letters(value, 4) and value.isupper()


def is_letters(value, most):
    """Whether any value is a string of 1 to most letters."""
    return isinstance(value, str) and 1 <= len(value) <= most and value.isascii() and value.isalpha()


def is_number(value, least, most):
    """Whether any value is a number from least to most."""
    # Python counts True and False among its integers; the document does not.
    return isinstance(value, int) and not isinstance(value, bool) and least <= value <= most
