"""Ways: lots that are done one after another, from a start."""

from remainways.doing import fit_term_behind
from remainways.errors import InvalidLot, InvalidText, OtherStart
from remainways.places import lot_text, scan_place
from remainways.steps import check_start, lot_rules


class Way:
    """A book, a start and lots; it never changes."""

    def __init__(self, book, start, lots=()):
        check_start(start)
        if not isinstance(lots, (list, tuple)):
            raise InvalidLot(-1)
        taken = []
        terms = [start]
        for at, lot in enumerate(lots):
            rules = lot_rules(book, terms[-1], lot, at)
            terms.append(fit_term_behind(terms[-1], rules))
            taken.append(tuple(rules))
        self.book = book
        self.start = start
        self._lots = tuple(taken)
        self._terms = tuple(terms)

    @property
    def end(self):
        """The term behind the last lot."""
        return self._terms[-1]

    def lots(self):
        """The list of the lots."""
        return list(self._lots)

    def terms(self):
        """The list of the terms: the start, and the terms behind each lot."""
        return list(self._terms)

    def with_lot(self, lot):
        """The way with one lot more."""
        rules = lot_rules(self.book, self._terms[-1], lot, len(self._lots))
        longer = Way(self.book, self.start)
        longer._lots = (*self._lots, tuple(rules))
        longer._terms = (*self._terms, fit_term_behind(self._terms[-1], rules))
        return longer

    def followed_by(self, way):
        """This way and another one behind it."""
        if self.book != way.book or self._terms[-1] != way.start:
            raise OtherStart()
        longer = Way(self.book, self.start)
        longer._lots = self._lots + way._lots
        longer._terms = self._terms + way._terms[1:]
        return longer

    def text(self):
        """The text of the way."""
        return lots_text(self._lots)

    @staticmethod
    def read(book, start, text):
        """The way with a text."""
        check_start(start)
        return Way(book, start, read_lots(text))

    def __add__(self, other):
        return self.with_lot(other)

    def __iter__(self):
        return iter(self._lots)

    def __eq__(self, other):
        if not isinstance(other, Way):
            return False
        return self.book == other.book and self.start == other.start and self._lots == other._lots

    def __len__(self):
        return len(self._lots)

    def __bool__(self):
        return True

    def __str__(self):
        return str(self.text())

    def __repr__(self):
        return f"Way({len(self._lots)} lots)"


def lots_text(lots):
    """The text of a way with these lots."""
    return ";".join([lot_text(lot) for lot in lots]) or "-"


def read_lots(text):
    """The list of the lots that the text of a way tells; raises the error for any value that is none."""
    if not isinstance(text, str):
        raise InvalidText(0, 0)
    end, lots = scan_lots(text)
    if lots is None or end < len(text):
        raise InvalidText(0, end)
    return lots


def scan_lots(text):
    """The pair of where the lots at the beginning of a text end, and these lots.

    If none stand there, the pair of the index of the first character that cannot stand, and None.
    """
    if text[:1] == "-":
        return 1, []
    lots = []
    at, lot = scan_lot(text, 0)
    while lot is not None:
        lots.append(lot)
        if text[at:at + 1] != ";":
            return at, lots
        at, lot = scan_lot(text, at + 1)
    return at, None


def scan_lot(text, at):
    """The pair of where a lot that begins at an index ends, and its places as they stand there, or None."""
    if text[at:at + 1] == "0":
        return at + 1, []
    places = []
    at, place = scan_place(text, at)
    while place is not None:
        places.append(place)
        if text[at:at + 1] != "+":
            return at, places
        at, place = scan_place(text, at + 1)
    return at, None
