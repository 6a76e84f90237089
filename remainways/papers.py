"""Papers: lists of lines that show results."""

from remainways.courses import lot_of_tree
from remainways.doing import is_fit_behind, term_behind
from remainways.errors import InvalidNumber, TooGreat
from remainways.grove import Grove
from remainways.pieces import named_places, without_sign
from remainways.places import lot_text, place_text
from remainways.remains import check_starts, square_trees
from remainways.rests import MOST_ROUNDS, ROUNDS, full_layers
from remainways.steps import check_start, lot_rules
from remainways.ways import lots_text
from remainways.why import check_piece, run_on, why
from remainways.words import is_number

# What stands instead of a lot by which a corner is reached where there is none.
NO_LOT = "-"


def squares_paper(one, other):
    """The paper of two ways."""
    check_starts(one, other)
    lines = squares_lines(one, other)
    if lines[-1] is None:
        raise TooGreat()
    return lines


def why_paper(way, piece):
    """The paper of a way and a piece of its end."""
    check_piece(piece, way.end)
    return why_lines(way, piece)


def rest_paper(book, term, *, rounds=ROUNDS):
    """The paper of a rest."""
    check_start(term)
    if not is_number(rounds, 1, MOST_ROUNDS):
        raise InvalidNumber(rounds)
    return rest_lines(book, term, rounds)


def squares_lines(one, other):
    """The lines of the paper of two ways; None ends them instead of the first corner whose term is not fit."""
    grove = Grove(one.book)
    trees = square_trees(grove, one, other)
    lines = ["squares", f"start {one.start.text()}", f"one {one.text()}", f"other {other.text()}"]
    above = []
    for i, first in enumerate(one.terms()):
        row = []
        for j, top in enumerate(other.terms()):
            lots = lots_to(grove, trees, i, j)
            term = top if i == 0 else first
            if i > 0 and j > 0:
                term = corner_or_none(one.book, above[j], lots[0])
            if term is None:
                return lines + [None]
            row.append(term)
            lines.append(f"corner {i} {j} {term.text()} {lot_word(lots[0])} {lot_word(lots[1])}")
        above = row
    return lines + [left_line(grove, trees)]


def lots_to(grove, trees, i, j):
    """The pair of the lots down and across by which a corner is reached, None where there is none."""
    downs, acrosses = trees
    down = lot_of_tree(grove, downs[i - 1][j]) if i > 0 else None
    across = lot_of_tree(grove, acrosses[i][j - 1]) if j > 0 else None
    return down, across


def corner_or_none(book, term, lot):
    """The term behind a lot, None if it is not fit."""
    rules = lot_rules(book, term, lot, 0)
    return term_behind(term, rules) if is_fit_behind(term, rules) else None


def lot_word(lot):
    """What stands in a line for a lot, or for None."""
    return NO_LOT if lot is None else lot_text(lot)


def left_line(grove, trees):
    """The line of what is left of two ways, the one after the other, and the other after the one."""
    downs, acrosses = trees
    one = lots_text([lot_of_tree(grove, row[-1]) for row in downs])
    other = lots_text([lot_of_tree(grove, tree) for tree in acrosses[-1]])
    return f"left {one} {other}"


def why_lines(way, piece):
    """The lines of the paper of a way and a piece of its end."""
    reason = why(way, piece=piece)
    lines = ["why", f"start {way.start.text()}", f"way {way.text()}", f"piece {piece.text()}"]
    lines.extend([f"run {found.text()}" for found in run_on(way, reason)])
    for place in named_places(reason):
        last = run_on(way, without_sign(reason, place))[-1]
        lines.append(f"less {place_text(place)} {last.text()}")
    return lines


def rest_lines(book, term, rounds):
    """The lines of the paper of a rest."""
    word, way, index = full_layers(book, term, rounds=rounds)
    lines = ["rest", f"start {term.text()}", f"rounds {rounds}"]
    for lot, behind in zip(way.lots(), way.terms()[1:]):
        lines.append(f"layer {lot_text(lot)} {behind.text()}")
    return lines + [word if index is None else f"{word} {index}"]
