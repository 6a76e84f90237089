"""The document's definition of papers, told once more, as in tests/waywords.py."""

import re

from remainways.terms import Term
from tests.helper import steps_by_words
from tests.piecewords import BLANK, full_by_words, is_piece_by_words, named_by_words, run_of_lots, why_by_words
from tests.waywords import key_by_words, squares_by_words, terms_by_words

PLACE = r"(\.|[1-4](\.[1-4])*)"
LOT = rf"(0|{PLACE}(\+{PLACE})*)"
WAY = rf"(-|{LOT}(;{LOT})*)"
TERM = r"[a-z_A-Z(),]+"


def is_fit(term):
    """[4]: whether a term is fit."""
    return term.size() <= 2000 and term.levels <= 100


def lot_word(lot):
    """[10]: the text of a lot."""
    return key_by_words([lot])


def place_word(place):
    """[4]: the text of a place."""
    return key_by_words([[place]])


def squares_by_lines(book, start, lots, others):
    """[39]: the paper of two ways; it ends ahead of the first corner that is not fit, with None."""
    corners, downs, acrosses = squares_by_words(book, start, lots, others)
    lines = ["squares", "start " + start.text(), "one " + key_by_words(lots), "other " + key_by_words(others)]
    for i in range(len(lots) + 1):
        for j in range(len(others) + 1):
            if not is_fit(corners[i, j]):
                return lines + [None]
            down = lot_word(downs[i - 1, j]) if i else "-"
            across = lot_word(acrosses[i, j - 1]) if j else "-"
            lines.append(f"corner {i} {j} {corners[i, j].text()} {down} {across}")
    left = [key_by_words([downs[i, len(others)] for i in range(len(lots))]), key_by_words([acrosses[len(lots), j] for j in range(len(others))])]
    return lines + ["left " + " ".join(left)]


def why_by_lines(book, start, lots, piece):
    """[39]: the paper of a way and a piece of its end."""
    reason = why_by_words(book, start, lots, piece)
    lines = ["why", "start " + start.text(), "way " + key_by_words(lots), "piece " + piece.text()]
    lines += ["run " + found.text() for found in run_of_lots(book, start, lots, reason)]
    for place in named_by_words(reason):
        last = run_of_lots(book, start, lots, reason.with_sub(place, BLANK))[-1]
        lines.append(f"less {place_word(place)} {last.text()}")
    return lines


def rest_by_lines(book, start, rounds):
    """[39]: the paper of a rest."""
    word, lots, index = full_by_words(book, start, rounds)
    lines = ["rest", "start " + start.text(), f"rounds {rounds}"]
    lines += [f"layer {lot_word(lot)} {term.text()}" for lot, term in zip(lots, terms_by_words(book, start, lots)[1:])]
    return lines + [f"ring {index}" if word == "ring" else word]


def term_given(value, at, word):
    """The term in a line, None if there is none."""
    if len(value) > at and isinstance(value[at], str) and re.fullmatch(f"{word} {TERM}", value[at]):
        try:
            return Term.read(value[at].split(" ")[1])
        except ValueError:
            return None
    return None


def lots_given(book, start, value, at, word):
    """The lots of a way in a line, None if it gives none from this start."""
    if len(value) <= at or not isinstance(value[at], str) or not re.fullmatch(f"{word} {WAY}", value[at]):
        return None
    text, lots, term = value[at].split(" ")[1], [], start
    for part in [] if text == "-" else text.split(";"):
        places = [tuple(int(number) for number in place.split(".") if number) for place in part.split("+")] if part != "0" else []
        if places != sorted(set(places)) or not set(places) <= set(steps_by_words(book, term)):
            return None
        lots.append(tuple(places))
        term = terms_by_words(book, start, lots)[-1]
        if not is_fit(term):
            return None
    return lots


def lines_by_words(book, value):
    """[40]: the lines that a list must have that begins so; None stands for the first one that cannot be right."""
    if not value or value[0] not in ("squares", "why", "rest"):
        return [None]
    start = term_given(value, 1, "start")
    if start is None or "_" in start.text() or start.holes() or not is_fit(start):
        return [value[0], None]
    if value[0] == "rest":
        rounds = value[2][7:] if len(value) > 2 and isinstance(value[2], str) and re.fullmatch("rounds [1-9][0-9]{0,2}", value[2]) else "0"
        return rest_by_lines(book, start, int(rounds)) if 1 <= int(rounds) <= 200 else list(value[:2]) + [None]
    lots = lots_given(book, start, value, 2, "one" if value[0] == "squares" else "way")
    if lots is None:
        return list(value[:2]) + [None]
    if value[0] == "squares":
        others = lots_given(book, start, value, 3, "other")
        return list(value[:3]) + [None] if others is None else squares_by_lines(book, start, lots, others)
    piece = term_given(value, 3, "piece")
    if piece is None or piece.holes() or not is_piece_by_words(piece, terms_by_words(book, start, lots)[-1]):
        return list(value[:3]) + [None]
    return why_by_lines(book, start, lots, piece)


def first_wrong_by_words(book, value):
    """[40]: the index of the first wrong line, or None."""
    wanted = lines_by_words(book, value)
    for at, line in enumerate(wanted):
        if at == len(value) or line is None or not isinstance(value[at], str) or value[at] != line:
            return at
    return len(wanted) if len(value) > len(wanted) else None
