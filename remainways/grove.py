"""Lots and terms as numbered trees with marks.

Equal trees have equal numbers, and what was once found for a tree is kept. So a lot with very many places, or a
term with 2**90 of them, costs no more than its different parts do.
"""

from remainways.places import TOP

# The tree of the empty lot, which stands wherever a lot has nothing, too.
NOTHING = 0
NUMBERS = (1, 2, 3, 4)


class Grove:
    """The trees of the lots and terms of one book.

    The tree of a lot has marks, mostly the indexes of the rules, at its places, and None above them. The tree of a
    plain term has its signs as marks.
    """

    def __init__(self, book):
        self._book = book
        self._rules = book.rules()
        # Nothing is asked of what is in a hole that is struck.
        self._kept_holes = [[row for row in rule.left_holes() if rule.times(row[1])] for rule in self._rules]
        self._marks = [None]
        self._parts = [()]
        self._counts = [0]
        self._numbers = {}
        self._steps = {}
        self._over = {}

    def tree(self, mark, parts):
        """The tree with this mark, or None, at its top, and these parts."""
        many = len(parts)
        while many > 0 and parts[many - 1] == NOTHING:
            many = many - 1
        if mark is None and many == 0:
            return NOTHING
        key = (mark, tuple(parts[:many]))
        if key not in self._numbers:
            self._numbers[key] = len(self._marks)
            own = 0 if mark is None else 1
            self._marks.append(mark)
            self._parts.append(key[1])
            self._counts.append(own + sum([self._counts[part] for part in key[1]]))
        return self._numbers[key]

    def lot_tree(self, marks):
        """The tree of a lot, a dict from its places to their marks."""
        above = {place[:many]: True for place in marks for many in range(len(place) + 1)}
        found = {}
        for place in sorted(above, reverse=True):
            parts = [found.get(place + (number,), NOTHING) for number in NUMBERS]
            found[place] = self.tree(marks.get(place), parts)
        return found.get(TOP, NOTHING)

    def term_tree(self, term):
        """The tree of a plain term."""
        made = {}
        waiting = [term]
        while waiting:
            part = waiting[-1]
            ahead = [inner for inner in part if inner.mark not in made]
            if ahead:
                waiting.extend(ahead)
            else:
                made[part.mark] = self.tree(part.sign(), [made[inner.mark] for inner in part])
                waiting.pop()
        return made[term.mark]

    def count_in(self, lot):
        """The number of the places of a lot."""
        return self._counts[lot]

    def marked_places(self, lot):
        """The ascending list of the pairs of a place of a lot and its mark."""
        found = []
        waiting = [(TOP, lot)]
        while waiting:
            place, part = waiting.pop()
            if self._marks[part] is not None:
                found.append((place, self._marks[part]))
            inner = self._parts[part]
            numbers = [number for number in range(len(inner), 0, -1) if inner[number - 1] != NOTHING]
            waiting.extend([(place + (number,), inner[number - 1]) for number in numbers])
        return found

    def trees_in(self, lot):
        """The ascending list of all trees that stand in a lot, so the parts of each stand ahead of it."""
        met = {lot: True}
        waiting = [lot]
        while waiting:
            tree = waiting.pop()
            for part in self._parts[tree]:
                if part not in met:
                    met[part] = True
                    waiting.append(part)
        return sorted(met)

    def marks_in(self, lot):
        """A dict with all marks of a lot as its keys."""
        return {self._marks[part]: True for part in self.trees_in(lot)}

    def marked(self, lot, marks):
        """The lot with other marks, given by a dict; a place whose mark is no key of it is left out."""
        made = {}
        for part in self.trees_in(lot):
            made[part] = self.tree(marks.get(self._marks[part]), [made[inner] for inner in self._parts[part]])
        return made[lot]

    def numbered(self, lot):
        """The pair of the lot with the numbers 0, 1, ... as its marks, by places, and the list of its old marks."""
        rows = []
        waiting = [(lot, -1)]
        while waiting:
            part, above = waiting.pop()
            waiting.extend([(inner, len(rows)) for inner in self._parts[part][::-1]])
            rows.append((part, above))
        old = [self._marks[part] for part, above in rows if self._marks[part] is not None]
        made = [[] for row in rows]
        tree = NOTHING
        number = len(old)
        # From the last row on, so that the parts of a row are made ahead of it, the last part first.
        for at in range(len(rows) - 1, -1, -1):
            part, above = rows[at]
            mark = None
            if self._marks[part] is not None:
                number = number - 1
                mark = number
            tree = self.tree(mark, made[at][::-1])
            if above >= 0:
                made[above].append(tree)
        return tree, old

    def steps_in(self, term):
        """The lot of all step places of a term."""
        waiting = [term]
        while waiting:
            part = waiting[-1]
            ahead = [inner for inner in self._parts[part] if inner not in self._steps]
            if ahead:
                waiting.extend(ahead)
            else:
                parts = [self._steps[inner] for inner in self._parts[part]]
                self._steps[part] = self.tree(self._fitting(part), parts)
                waiting.pop()
        return self._steps[term]

    def left_of(self, lot, other):
        """What is left of a lot, with any marks, after another lot of the same term."""
        return self._moved(lot, other, False)

    def behind(self, term, lot):
        """The term behind a lot of it."""
        return self._moved(term, lot, True)

    def remains(self, lots, others):
        """The pair of what is left of lots after others, and of these after those; each a row of lots from one term."""
        across = list(others)
        down = []
        for lot in lots:
            rest = lot
            row = []
            for other in list(across):
                row.append(self.left_of(other, rest))
                rest = self.left_of(rest, other)
            across = row
            down.append(rest)
        return down, across

    def _fitting(self, term):
        """The index of the rule that fits at the top of a term, or None."""
        for index in self._book.rules_for(self._marks[term]):
            if self._is_fitting(self._rules[index].left, term):
                return index
        return None

    def _is_fitting(self, left, term):
        """Whether a term has the same sign at each place of a name of a left side."""
        waiting = [(left, term)]
        while waiting:
            side, part = waiting.pop()
            if side.sign() is not None:
                if side.sign() != self._marks[part]:
                    return False
                waiting.extend(list(zip(side.parts(), self._parts[part])))
        return True

    def _below(self, tree, place):
        """The tree at a place of a tree."""
        found = tree
        for number in place:
            parts = self._parts[found]
            found = parts[number - 1] if number <= len(parts) else NOTHING
        return found

    def _moved(self, tree, lot, signed):
        """The tree of what a lot makes of a tree; with the signs of the right sides, or without."""
        waiting = [(tree, lot)]
        while waiting:
            one, other = waiting[-1]
            pairs = self._inner_pairs(one, other)
            ahead = [pair for pair in pairs if self._known(pair[0], pair[1], signed) is None]
            if self._known(one, other, signed) is not None:
                waiting.pop()
            elif ahead:
                waiting.extend(ahead)
            else:
                parts = [self._known(inner, beside, signed) for inner, beside in pairs]
                self._over[(one, other, signed)] = self._made(one, other, parts, signed)
        return self._known(tree, lot, signed)

    def _known(self, tree, lot, signed):
        """What a lot makes of a tree, None if that was not found yet."""
        if tree == NOTHING or lot == NOTHING:
            return tree
        return self._over.get((tree, lot, signed))

    def _inner_pairs(self, tree, lot):
        """The pairs of what is within a tree and what the lot has there, by the parts or by the holes that are kept."""
        mark = self._marks[lot]
        if mark is not None:
            return [(self._below(tree, spot), self._below(lot, spot)) for spot, hole in self._kept_holes[mark]]
        beside = self._parts[lot]
        return [(part, beside[at] if at < len(beside) else NOTHING) for at, part in enumerate(self._parts[tree])]

    def _made(self, tree, lot, parts, signed):
        """The tree of what a lot makes of a tree, with what it makes of all that is within."""
        mark = self._marks[lot]
        if mark is None:
            return self.tree(self._marks[tree], parts)
        contents = {row[1]: part for row, part in zip(self._kept_holes[mark], parts)}
        return self._filled(self._rules[mark].right, contents, signed)

    def _filled(self, side, contents, signed):
        """The tree of a right side with the contents of its holes, with its signs as marks, or without marks."""
        if side.sign() is None:
            return contents[side.word]
        parts = [self._filled(part, contents, signed) for part in side]
        return self.tree(side.sign() if signed else None, parts)
