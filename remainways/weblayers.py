"""Full layers of webs."""

from remainways.errors import TooMany
from remainways.rests import ROUNDS, check_rounds
from remainways.webs import MOST_KNOTS, Web, canonical, times_of_knots


def web_steps(book, web):
    """The number of the step places of the term of a web."""
    knots = web.knots()
    indexes = fitting_rules(book, knots)
    return sum([times for index, times in zip(indexes, times_of_knots(knots)) if index is not None])


def web_layer(book, web):
    """The web behind the full layer of a web."""
    knots = layer_behind(book, web.knots())
    if len(knots) > MOST_KNOTS:
        raise TooMany(MOST_KNOTS)
    return Web(knots)


def web_rest(book, web, *, rounds=ROUNDS):
    """The tuple (word, web, count) of the word that ends the full layers, the last web, and how many were done."""
    check_rounds(rounds)
    knots = web.knots()
    earlier = {}
    while True:
        if not has_steps(book, knots):
            return ("rest", Web(knots), len(earlier))
        if tuple(knots) in earlier:
            return ("ring", Web(knots), len(earlier))
        if len(earlier) == rounds:
            return ("open", Web(knots), len(earlier))
        behind = layer_behind(book, knots)
        if len(behind) > MOST_KNOTS:
            return ("great", Web(knots), len(earlier))
        earlier[tuple(knots)] = True
        knots = behind


def has_steps(book, knots):
    """Whether a rule fits at some place of the term of canonical knots."""
    return any([index is not None for index in fitting_rules(book, knots)])


def fitting_rules(book, knots):
    """The list of the indexes of the rules that fit at the top of each knot, None where there is none."""
    rules = book.rules()
    found = []
    for at, knot in enumerate(knots):
        fitting = [index for index in book.rules_for(sign_of(knot)) if is_fitting_at(rules[index].left, knots, at)]
        found.append(fitting[0] if fitting else None)
    return found


def sign_of(knot):
    """The sign at the top of what a knot tells."""
    return (knot[0], len(knot) - 1)


def is_fitting_at(left, knots, at):
    """Whether the term of a knot has the same sign at each place of a name of a left side."""
    if left.sign() is None:
        return True
    if left.sign() != sign_of(knots[at]):
        return False
    return all([is_fitting_at(part, knots, inner) for part, inner in zip(left, knots[at][1:])])


def layer_behind(book, knots):
    """The list of the canonical knots of the term behind the full layer, however many these are."""
    rules = book.rules()
    rows = []
    behind = []
    for at, index in enumerate(fitting_rules(book, knots)):
        if index is None:
            rows.append((knots[at][0], *[behind[inner] for inner in knots[at][1:]]))
            behind.append(len(rows) - 1)
        else:
            contents = {hole: behind[index_below(knots, at, spot)] for spot, hole in rules[index].left_holes()}
            inner = filled_rows(rules[index].right, contents, len(rows))
            rows.extend(inner)
            behind.append(len(rows) - 1 if inner else contents[rules[index].right.word])
    return canonical(rows[:behind[-1] + 1])


def index_below(knots, at, place):
    """The index of the knot at a place of what a knot tells."""
    found = at
    for number in place:
        found = knots[found][number]
    return found


def filled_rows(side, contents, many):
    """The rows of a right side that stand behind so many others, with the rows of the contents of its holes.

    There are none if the side is a hole alone.
    """
    if side.sign() is None:
        return []
    rows = []
    indexes = []
    for part in side:
        inner = filled_rows(part, contents, many + len(rows))
        rows.extend(inner)
        indexes.append(many + len(rows) - 1 if inner else contents[part.word])
    return rows + [(side.word, *indexes)]
