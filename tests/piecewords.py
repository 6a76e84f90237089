"""The document's definitions of works, pieces and rests, told once more, as in tests/waywords.py."""

import itertools

from remainways.terms import Term
from tests.helper import (done_by_words, holes_by_words, images_by_words, names_by_words, places_by_words, put_in,
                          right_places, rule_by_words, steps_by_words, within)
from tests.waywords import key_by_words, layers_by_words, terms_by_words, within_by_words

BLANK = Term("_")


def rows_by_search(book, start, lots):
    """[23]: all rows for a work, ascending."""
    found, begun = [], [()]
    while begun:
        row = begun.pop()
        steps = [(place,) for place in row]
        if within_by_words(book, start, steps, lots):
            if within_by_words(book, start, lots, steps):
                found.append(row)
            end = terms_by_words(book, start, steps)[-1]
            begun += [row + (place,) for place in steps_by_words(book, end)]
    return sorted(found)


def parts_by_search(book, start, rows):
    """[23]: the lots of all parts of a work with these rows, in their order: the works of the beginnings of rows."""
    found = {}
    for begun in {row[:many] for row in rows for many in range(len(row) + 1)}:
        layers = layers_by_words(book, start, [(place,) for place in begun])
        found[len(layers), key_by_words(layers)] = layers
    return [found[key] for key in sorted(found)]


def is_piece_by_words(piece, term):
    """[24]: whether a piece is a term with some subterms replaced by blanks."""
    return piece in all_pieces(term) if term.size() < 4 else is_piece_by_parts(piece, term)


def is_piece_by_parts(piece, term):
    """Likewise, from the top down."""
    if piece.word == "_":
        return True
    pairs = zip(piece.parts(), term.parts())
    return piece.sign() == term.sign() and all(is_piece_by_parts(one, other) for one, other in pairs)


def all_pieces(term):
    """[24]: all pieces of a term."""
    rows = itertools.product(*[all_pieces(part) for part in term.parts()])
    return [BLANK] + ([Term(term.word, *row) for row in rows] if term.word != "_" else [])


def count_pieces(term):
    """The number of the pieces of a term."""
    found = 1
    for part in term.parts():
        found *= count_pieces(part)
    return found + 1


def random_piece(dice, term, often=0.25):
    """A term with blanks at drawn places."""
    if dice.random() < often:
        return BLANK
    return Term(term.word, *[random_piece(dice, part, often) for part in term.parts()])


def filled_up(dice, piece, terms):
    """A piece with drawn terms instead of its blanks."""
    if piece.word == "_":
        return dice.choice(terms)
    return Term(piece.word, *[filled_up(dice, part, terms) for part in piece.parts()])


def named_by_words(piece):
    """The places at which a piece has a name."""
    return [place for place in places_by_words(piece) if piece.sub(place).word != "_"]


def has_left_side(rule, piece):
    """Whether a piece has a name at each place of a name of the left side."""
    return set(names_by_words(rule.left)) <= set(named_by_words(piece))


def run_by_words(book, term, piece, lot):
    """[25]: the piece behind a lot of a term that is run on a piece of it."""
    if piece.word == "_":
        return BLANK
    if () not in lot:
        rows = enumerate(zip(term.parts(), piece.parts()), start=1)
        return Term(piece.word, *[run_by_words(book, one, other, within(lot, (at,))) for at, (one, other) in rows])
    rule = book.rules()[rule_by_words(book, term, ())]
    if not has_left_side(rule, piece):
        return BLANK
    contents = {hole: run_by_words(book, term.sub(place), piece.sub(place), within(lot, place))
                for hole, place in holes_by_words(rule).items()}
    return put_in(rule.right, contents)


def run_of_lots(book, start, lots, piece):
    """[25]: all pieces of the run of a way, the one of the start first."""
    found = [piece]
    for term, lot in zip(terms_by_words(book, start, lots), lots):
        found.append(run_by_words(book, term, found[-1], lot))
    return found


def standing_by_words(book, start, lots, piece):
    """[25]: the places of each lot that stand in the run."""
    found = []
    rows = zip(terms_by_words(book, start, lots), lots, run_of_lots(book, start, lots, piece))
    for term, lot, ahead in rows:
        found.append(tuple(place for place in lot if place in places_by_words(ahead)
                           and has_left_side(book.rules()[rule_by_words(book, term, place)], ahead.sub(place))))
    return found


def joined_by_words(one, other):
    """[24]: the piece that has a name where one of two pieces has one."""
    if one.word == "_" or other.word == "_":
        return other if one.word == "_" else one
    return Term(one.word, *[joined_by_words(left, right) for left, right in zip(one.parts(), other.parts())])


def ahead_by_words(book, term, piece, lot):
    """[26]: the piece of a term that is needed for a piece behind a lot of it."""
    if piece.word == "_":
        return BLANK
    if () not in lot:
        rows = enumerate(zip(term.parts(), piece.parts()), start=1)
        return Term(piece.word, *[ahead_by_words(book, one, other, within(lot, (at,))) for at, (one, other) in rows])
    rule = book.rules()[rule_by_words(book, term, ())]
    contents = {}
    for hole, place in holes_by_words(rule).items():
        wanted = BLANK
        for spot in right_places(rule, hole):
            if spot in places_by_words(piece):
                wanted = joined_by_words(wanted, piece.sub(spot))
        contents[hole] = ahead_by_words(book, term.sub(place), wanted, within(lot, place))
    return put_in(rule.left, contents)


def why_by_words(book, start, lots, piece):
    """[26]: why a piece of the end is there, lot by lot."""
    for term, lot in reversed(list(zip(terms_by_words(book, start, lots), lots))):
        piece = ahead_by_words(book, term, piece, lot)
    return piece


def lean_by_words(book, start, lots):
    """[27]: the lots of the lean way."""
    layers = layers_by_words(book, start, lots)
    end = terms_by_words(book, start, layers)[-1]
    rows = standing_by_words(book, start, layers, why_by_words(book, start, layers, end))
    return [lot for lot in rows if lot]


def full_by_words(book, start, rounds):
    """[28]: the word that ends the full layers, their lots, and the index of the earlier term."""
    terms, lots = [start], []
    while True:
        lot = tuple(steps_by_words(book, terms[-1]))
        if not lot:
            return "rest", lots, None
        if terms[-1] in terms[:-1]:
            return "ring", lots, terms.index(terms[-1])
        if len(lots) == rounds:
            return "open", lots, None
        behind = done_by_words(book, terms[-1], lot)
        if behind.size() > 2000 or behind.levels > 100:
            return "great", lots, None
        terms.append(behind)
        lots.append(lot)


def is_needed_by_search(book, start, place, most=300):
    """[29]: whether no way of single steps to the rest does without the images of a place; None if there are too many."""
    met, waiting = {}, [(start, (place,))]
    while waiting:
        term, barred = waiting.pop()
        state = (term.text(), barred)
        if state not in met:
            met[state] = True
            steps = steps_by_words(book, term)
            if not steps:
                return False
            if len(met) > most or term.size() > 80:
                return None
            for step in steps:
                if step not in barred:
                    left = [image for other in barred for image in images_by_words(book, term, other, [step])]
                    waiting.append((done_by_words(book, term, [step]), tuple(sorted(left))))
    return True
