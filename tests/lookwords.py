"""The document's definitions of first looks, told once more, as in tests/waywords.py; and books that are split."""

import random

from remainways.books import Book
from remainways.errors import WorkError
from remainways.rules import Rule
from remainways.terms import Term
from tests.helper import names_by_words, rule_by_words, steps_by_words

DOERS = [("d", 2), ("e", 3), ("c", 1), ("n", 0)]
MAKERS = [("a", 0), ("b", 0), ("s", 1), ("p", 2)]
HOLES = ("X", "Y", "Z", "U", "V", "W", "XX", "YY", "ZZ", "UU", "VV", "WW")


def random_side(dice, doer, levels):
    """A left side with a doer at its top and makers beneath it."""
    names = iter(HOLES)

    def below(many):
        """A pattern of makers and new holes."""
        if many == 0 or dice.random() < 0.45:
            return Term(next(names))
        name, count = dice.choice(MAKERS)
        return Term(name, *[below(many - 1) for _ in range(count)])

    return Term(doer[0], *[below(levels) for _ in range(doer[1])])


def random_right(dice, holes, levels):
    """A right side with doers and makers, and these holes or none."""
    if holes and dice.random() < 0.4:
        return Term(dice.choice(holes))
    signs = [sign for sign in DOERS + MAKERS if levels > 0 or sign[1] == 0]
    name, count = dice.choice(signs)
    return Term(name, *[random_right(dice, holes, levels - 1) for _ in range(count)])


def random_book(dice, many):
    """A split book with about so many rules."""
    book = Book()
    for _ in range(4 * many):
        if len(book) == many:
            break
        left = random_side(dice, dice.choice(DOERS), dice.choice((1, 1, 2)))
        try:
            book = book + Rule(left, random_right(dice, left.holes(), 2))
        except WorkError:
            # It stands on a rule that is there.
            continue
    return book


def random_books(many, seed):
    """So many split books, with and without all trees."""
    dice = random.Random(seed)
    return [random_book(dice, dice.randint(1, 9)) for _ in range(many)]


def stuck_books(many, seed):
    """So many split books in which the rules of a round ask at no common place: alone, or behind some first look."""
    dice = random.Random(seed)
    found = []
    while len(found) < many:
        tops = dice.sample(["a", "b", "c", "s(a)", "s(b)", "p(a,V)", "p(b,V)", "s(s(V))"], dice.randint(1, 4))
        head, tail = dice.choice((("e(", ")"), ("e(q(", "))")))
        lines = []
        for top in tops:
            round_sides = [("a", "b", "X"), ("X", "a", "b"), ("b", "X", "a")]
            for sides in round_sides if dice.random() < 0.6 else [("X", "Y", "Z")]:
                lines.append(f"1 {head}{','.join((top,) + sides)}{tail} -> o\n")
        lines += dice.sample(["1 c(s(X)) -> X\n", "1 c(a) -> b\n", "1 n -> a\n", "1 d(X,a) -> X\n", "1 d(X,s(Y)) -> Y\n"], 2)
        dice.shuffle(lines)
        try:
            found.append(Book.read("".join(lines)))
        except WorkError:
            # Some sides stand on one another.
            continue
    return found


def drawn_term(dice, levels, doers, makers):
    """A plain term of doers and makers."""
    signs = [sign for sign in doers + makers if levels > 1 or sign[1] == 0]
    name, count = dice.choice(signs)
    return Term(name, *[drawn_term(dice, levels - 1, doers, makers) for _ in range(count)])


def doers_by_words(book):
    """[31]: the doers."""
    return sorted({rule.left.sign() for rule in book})


def not_split_by_words(book):
    """[31]: the least pair of a rule and a place of a doer beneath its top, None in a split book."""
    pairs = [(at, place) for at, rule in enumerate(book) for place, sign in names_by_words(rule.left).items()
             if place and sign in doers_by_words(book)]
    return min(pairs, default=None)


def piece_text(seen, place):
    """The text of the piece with seen signs at their places, and blanks elsewhere."""
    if place not in seen:
        return "_"
    name, count = seen[place]
    parts = [piece_text(seen, place + (number,)) for number in range(1, count + 1)]
    return f"{name}({','.join(parts)})" if parts else name


class Stopped(Exception):
    """Rules are stuck where this was seen."""


def open_by_words(seen):
    """[31]: the open places, ascending."""
    inner = [place + (number,) for place, sign in seen.items() for number in range(1, sign[1] + 1)]
    return sorted(place for place in inner if place not in seen)


def tree_by_words(book, doer):
    """[31]: the tree of a doer, or the pair of the rules that are stuck and the text of what was seen, as an error."""
    names = [names_by_words(rule.left) for rule in book]

    def told(candidates, seen):
        asked = [place for place in open_by_words(seen) if all(place in names[at] for at in candidates)]
        if asked:
            signs = sorted({names[at][asked[0]] for at in candidates})
            return ("look", asked[0], tuple(
                (sign, told([at for at in candidates if names[at][asked[0]] == sign], {**seen, asked[0]: sign})) for sign in signs))
        if len(candidates) == 1:
            return ("rule", candidates[0])
        raise Stopped(tuple(candidates), piece_text(seen, ()), open_by_words(seen))

    return told([at for at in range(len(book)) if names[at][()] == doer], {(): doer})


def stopped_by_words(book, doer):
    """[31]: the rules that are stuck first, the text of what was seen and the open places; None if there is a tree."""
    try:
        tree_by_words(book, doer)
    except Stopped as stopped:
        return stopped.args
    return None


def first_without_tree(book):
    """The least doer that has no tree, None if each has one."""
    return min([doer for doer in doers_by_words(book) if stopped_by_words(book, doer)], default=None)


def gaps_by_words(book, doer, makers):
    """[33]: the texts of the gaps."""
    found = []

    def go(tree, seen):
        if tree[0] == "look":
            signs = [sign for sign, inner in tree[2]]
            found.extend(piece_text({**seen, tree[1]: sign}, ()) for sign in makers if sign not in signs)
            for sign, inner in tree[2]:
                go(inner, {**seen, tree[1]: sign})

    go(tree_by_words(book, doer), {(): doer})
    return found


def looked_by_words(book, term):
    """[32]: the place that is found in a term whose top is a doer, or the word blocked."""
    tree = tree_by_words(book, term.sign())
    while tree[0] == "look":
        part = term.sub(tree[1])
        inner = [other for sign, other in tree[2] if sign == part.sign()]
        if inner:
            tree = inner[0]
        elif part.sign() in doers_by_words(book):
            found = looked_by_words(book, part)
            return found if found == "blocked" else tree[1] + found
        else:
            return "blocked"
    if rule_by_words(book, term, ()) != tree[1]:
        raise AssertionError("another rule fits than the one that was found")
    return ()


def next_by_words(book, term):
    """[32]: the next place, or None."""
    if term.sign() in doers_by_words(book):
        found = looked_by_words(book, term)
        if found != "blocked":
            return found
    for at, part in enumerate(term.parts()):
        found = next_by_words(book, part)
        if found is not None:
            return (at + 1,) + found
    return None


def is_rest(book, term):
    """[28]: whether a plain term is a rest."""
    return steps_by_words(book, term) == []
