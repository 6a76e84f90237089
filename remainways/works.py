"""The parts of works in books that strike nothing, and the rows of single steps for such works."""

from remainways.courses import Course, course_of, lot_of_tree, with_trees
from remainways.errors import InvalidNumber, TooMany
from remainways.grove import Grove
from remainways.pasts import check_strikes
from remainways.ways import Way, lots_text
from remainways.words import is_number

MOST = 400


def parts(way, *, most=MOST):
    """The list of the parts of a way, by their numbers of layers, then by their keys."""
    check_strikes(way.book)
    if not is_number(most, 1, MOST):
        raise InvalidNumber(most)
    grove = Grove(way.book)
    found, steps = parts_and_steps(grove, way, most)
    rows = [(len(layers), lots_text([lot_of_tree(grove, layer) for layer in layers]), layers) for layers in found]
    made = {(): Way(way.book, way.start)}
    for many, key, layers in sorted(rows)[1:]:
        # The layers of a part without the last one are a part with fewer layers.
        made[layers] = with_trees(grove, made[layers[:-1]], layers[-1:])
    return list(made.values())


def count_rows(way):
    """The number of the rows for the work."""
    steps = steps_between(way)
    order = in_order(steps)
    counts = [0 for row in steps]
    counts[0] = 1
    for number in order:
        for due, behind in steps[number]:
            counts[behind] = counts[behind] + counts[number]
    return counts[order[-1]]


def work_dues(way):
    """The pair of the least and the greatest dues of a row for the work."""
    return bounds(steps_between(way))


def work_steps(way):
    """The pair of the least and the greatest number of steps of a row for the work."""
    return bounds([[(1, behind) for due, behind in row] for row in steps_between(way)])


def rows_of_work(way):
    """The rows for the work, as tuples of places, ascending, one after the other."""
    check_strikes(way.book)
    waiting = [((), course_of(Grove(way.book), way))]
    # What is left is the same behind many rows.
    known = {}
    while waiting:
        row, course = waiting.pop()
        state = (course.term, course.trees)
        if state not in known:
            known[state] = next_steps(course)
        if not known[state]:
            yield row
        waiting.extend([(row + (place,), behind) for place, due, behind in known[state][::-1]])


def next_steps(course):
    """The ascending list of the triples of a place that can be done next, its mark, and the course behind it."""
    grove = course.grove
    found = []
    for place, index in grove.marked_places(course.layer()):
        found.append((place, index, course.behind(grove.lot_tree({place: index}))))
    return found


def steps_between(way):
    """For each part of a way, the list of the pairs of the due of a step from it, and the number of the part behind."""
    check_strikes(way.book)
    found, steps = parts_and_steps(Grove(way.book), way, MOST)
    return steps


def parts_and_steps(grove, way, most):
    """The list of the parts of a way as tuples of layers, and the list of the steps between them.

    The first part is the one without lots. Raises the error if there are more than this many.
    """
    rules = way.book.rules()
    start = course_of(grove, way)
    numbers = {(): 0}
    found = [()]
    left = [start]
    steps = []
    while len(steps) < len(found):
        layers = found[len(steps)]
        course = left[len(steps)]
        # All lots of places of a layer lead to different parts, so that there are 2**n for n places.
        if grove.count_in(course.layer()) >= most.bit_length():
            raise TooMany(most)
        row = []
        for place, index, behind in next_steps(course):
            key = layers_with(grove, start.term, layers, (place, index))
            if key not in numbers:
                numbers[key] = len(found)
                found.append(key)
                left.append(behind)
            row.append((rules[index].due, numbers[key]))
        steps.append(row)
        if len(found) > most:
            raise TooMany(most)
    return found, steps


def layers_with(grove, term, layers, step):
    """The layers of a work with one step more, the pair of a place and its mark; layers are told as tuples of trees."""
    terms = [term]
    for layer in layers:
        terms.append(grove.behind(terms[-1], layer))
    place, mark = step
    last = grove.lot_tree({place: mark})
    first = len(layers)
    # A step that becomes part of an earlier layer is all that is left of one place there; layers ahead stay.
    for at in range(len(layers) - 1, -1, -1):
        place = origin(grove, terms[at], layers[at], place)
        if place is None:
            break
        if Course(grove, terms[at], layers[at:]).left_behind(grove.lot_tree({place: mark})) == last:
            first = at
    rest = Course(grove, terms[first], layers[first:] + (last,))
    return layers[:first] + tuple(rest.layers())


def origin(grove, term, lot, place):
    """The step place of a term of which a step place behind a lot is an image, None if there is none."""
    steps = grove.steps_in(term)
    numbered, marks = grove.numbered(steps)
    for image, number in grove.marked_places(grove.left_of(numbered, lot)):
        if image == place:
            return grove.marked_places(steps)[number][0]
    return None


def in_order(steps):
    """The numbers of all parts, each behind those from which a step leads to it; the whole work is the last one."""
    missing = [0 for row in steps]
    for row in steps:
        for due, behind in row:
            missing[behind] = missing[behind] + 1
    found = []
    ready = [0]
    while ready:
        number = ready.pop()
        found.append(number)
        for due, behind in steps[number]:
            missing[behind] = missing[behind] - 1
            if missing[behind] == 0:
                ready.append(behind)
    return found


def bounds(steps):
    """The pair of the least and the greatest sum of dues on the rows of steps from the first part to the last one."""
    order = in_order(steps)
    least = {0: 0}
    greatest = {0: 0}
    for number in order:
        for due, behind in steps[number]:
            dues = least[number] + due
            least[behind] = min(dues, least.get(behind, dues))
            greatest[behind] = max(greatest[number] + due, greatest.get(behind, 0))
    return (least[order[-1]], greatest[order[-1]])
