"""Retellings: signs under other names, with their arguments in another order."""

from remainways.books import Book
from remainways.errors import InvalidRow, NoPlace, NotTurned
from remainways.rules import Rule
from remainways.terms import Term
from remainways.ways import Way
from remainways.words import is_name, is_number


class Retelling:
    """Rows that tell signs otherwise, and can be told back; it never changes."""

    def __init__(self, rows):
        check_rows(rows)
        self._rows = tuple(rows)
        self._told = {(name, count): (new, order) for name, count, new, order in rows}

    def rows(self):
        """The list of the rows."""
        return list(self._rows)

    def term_told(self, term):
        """A term told otherwise; holes and blanks stay."""
        made = {}
        waiting = [term]
        while waiting:
            part = waiting[-1]
            ahead = [inner for inner in part if inner.mark not in made]
            if ahead:
                waiting.extend(ahead)
            else:
                made[part.mark] = self._top_told(part, [made[inner.mark] for inner in part])
                waiting.pop()
        return made[term.mark]

    def place_told(self, term, place):
        """The place at which the subterm at a place of a term stands then."""
        if place not in term:
            raise NoPlace(place)
        told = []
        part = term
        for number in place:
            new, order = self._told.get(part.sign(), (part.word, (1, 2, 3, 4)))
            told.append(order.index(number) + 1)
            part = part.parts()[number - 1]
        return tuple(told)

    def lot_told(self, term, lot):
        """The places of a list or tuple of places told otherwise, ascending."""
        return tuple(sorted(set([self.place_told(term, place) for place in lot])))

    def book_told(self, book):
        """The book with both sides of all rules told otherwise."""
        rules = [Rule(self.term_told(rule.left), self.term_told(rule.right), due=rule.due) for rule in book]
        return Book(*rules)

    def way_told(self, way):
        """The way of the book, the start and the lots told otherwise."""
        lots = [self.lot_told(term, lot) for term, lot in zip(way.terms(), way.lots())]
        return Way(self.book_told(way.book), self.term_told(way.start), lots)

    def back(self):
        """The retelling that tells all back."""
        return Retelling([(new, count, name, turned(order)) for name, count, new, order in self._rows])

    def _top_told(self, term, parts):
        """A term told otherwise whose parts were told otherwise."""
        if term.sign() not in self._told:
            return Term(term.word, *parts)
        new, order = self._told[term.sign()]
        moved = [parts[number - 1] for number in order]
        return Term(new, *moved)

    def __len__(self):
        return len(self._rows)

    def __bool__(self):
        return True

    def __repr__(self):
        return f"Retelling({len(self._rows)} rows)"


def turned(order):
    """The order that puts arguments back."""
    return tuple([order.index(number) + 1 for number in range(1, len(order) + 1)])


def check_rows(rows):
    """Raises the errors of the constructor of retellings."""
    if not isinstance(rows, (list, tuple)):
        raise InvalidRow(-1)
    old = {}
    new = {}
    for at, row in enumerate(rows):
        if not is_row(row) or (row[0], row[1]) in old or (row[2], row[1]) in new:
            raise InvalidRow(at)
        old[(row[0], row[1])] = True
        new[(row[2], row[1])] = True
    for at, row in enumerate(rows):
        if (row[2], row[1]) not in old:
            raise NotTurned(at)


def is_row(value):
    """Whether any value is a tuple of a name, a number of arguments, a name, and an order of these arguments."""
    if not isinstance(value, tuple) or len(value) != 4:
        return False
    name, count, new, order = value
    return is_name(name) and is_number(count, 0, 4) and is_name(new) and is_order(order, count)


def is_order(value, count):
    """Whether any value is a tuple of the numbers from 1 to count in some order."""
    if not isinstance(value, tuple) or not all([is_number(item, 1, count) for item in value]):
        return False
    return sorted(value) == list(range(1, count + 1))
