"""Stores: several hands work on one term and exchange letters."""

from remainways.errors import DuplicateName, InvalidDeed, InvalidName, LastHand, NotKey, TooMany
from remainways.errors import UnknownLetter, UnknownName
from remainways.layers import key_of, settled
from remainways.pasts import common_past, without
from remainways.remains import joined, left, within
from remainways.steps import check_start, lot_rules
from remainways.ways import Way
from remainways.words import is_name, is_number

MOST_HANDS = 8
# The deeds by their words, with their numbers of items.
DEEDS = {"do": 3, "take": 3, "meet": 3, "branch": 3, "out": 3, "drop": 2, "post": 3}


class Store:
    """A book, a start, hands with their works, and letters.

    What it holds is kept in tuples that are never changed, so a deed is one assignment, or none if an error is raised.
    """

    def __init__(self, book, start, *hands):
        check_start(start)
        check_hands(hands)
        self.book = book
        self.start = start
        work = Way(book, start)
        # Each hand is told by its name, its work, and the ascending numbers of the letters that are laid by.
        self._hands = tuple([(name, work, ()) for name in hands])
        # Each letter is told by its ground, and by its ground with its lot.
        self._letters = ()
        self._busy = False

    def hands(self):
        """The list of the names of the hands."""
        return [name for name, work, laid in self._hands]

    def way_of(self, hand):
        """The work of a hand."""
        return self._row_of(hand)[1]

    def key_text(self, hand):
        """The key of the work of a hand."""
        # A work is settled.
        return self.way_of(hand).text()

    def letters(self):
        """The list of the letters as pairs (ground, lot)."""
        return [(ground.text(), whole.lots()[-1]) for ground, whole in self._letters]

    def laid(self, hand):
        """The ascending list of the numbers of the letters that a hand has laid by."""
        return list(self._row_of(hand)[2])

    def has_letter(self, hand, number):
        """Whether a hand has a letter."""
        work = self.way_of(hand)
        return within(self._letter(number)[1], work)

    def do(self, hand, lot):
        """Does a lot of the end of the work of a hand; the number of its letter."""
        name, work, laid = self._row_of(hand)
        whole = work.with_lot(list(lot_rules(self.book, work.end, lot, 0)))
        self._put(name, caught_up(self._letters, settled(whole), laid))
        self._letters = self._letters + ((work, whole),)
        return len(self._letters) - 1

    def take(self, hand, number):
        """Takes a letter; the list of the numbers of all letters that were taken."""
        name, work, laid = self._row_of(hand)
        ground, whole = self._letter(number)
        others = [other for other in laid if other != number]
        if not within(ground, work):
            self._put(name, (work, tuple(sorted(others + [number])), ()))
            return []
        behind = caught_up(self._letters, settled(joined(work, whole)), others)
        self._put(name, behind)
        return [number, *behind[2]]

    def meet(self, hand, other):
        """Joins the work of another hand to that of a hand; the list of the letters that were taken behind that."""
        name, work, laid = self._row_of(hand)
        behind = caught_up(self._letters, settled(joined(work, self.way_of(other))), laid)
        self._put(name, behind)
        return list(behind[2])

    def branch(self, hand, name):
        """Puts a new hand behind the others, with the same work and the same letters laid by."""
        old, work, laid = self._row_of(hand)
        check_new_name(name, self.hands())
        if len(self._hands) == MOST_HANDS:
            raise TooMany(MOST_HANDS)
        self._hands = self._hands + ((name, work, laid),)

    def take_out(self, hand, place):
        """Takes a step place of the start out of the work of a hand."""
        name, work, laid = self._row_of(hand)
        self._put(name, (without(work, place), laid, ()))

    def drop(self, hand):
        """Drops a hand."""
        name = self._row_of(hand)[0]
        if len(self._hands) == 1:
            raise LastHand()
        self._hands = tuple([row for row in self._hands if row[0] != name])

    def post(self, ground, lot):
        """Adds a letter that no hand did; its number."""
        way = Way.read(self.book, self.start, ground)
        if key_of(way) != ground:
            raise NotKey()
        whole = way.with_lot(list(lot_rules(self.book, way.end, lot, 0)))
        self._letters = self._letters + ((way, whole),)
        return len(self._letters) - 1

    def lacks(self, hand, other):
        """What is left of the work of the other hand after that of the hand."""
        work = self.way_of(hand)
        return left(self.way_of(other), work)

    def common(self, hand, other):
        """The common past of the works of two hands."""
        work = self.way_of(hand)
        return common_past(work, self.way_of(other))

    def together(self, *deeds):
        """Does deeds, all or none; the list of their results."""
        for at, deed in enumerate(deeds):
            if not is_deed(deed):
                raise InvalidDeed(at)
        hands = self._hands
        letters = self._letters
        found = None
        self._busy = True
        try:
            found = [self._did(deed) for deed in deeds]
        finally:
            self._busy = False
            if found is None:
                self._hands = hands
                self._letters = letters
        return found

    @property
    def busy(self):
        """Whether together is doing deeds."""
        return self._busy

    def twin(self):
        """An independent store in the same state."""
        names = self.hands()
        other = Store(self.book, self.start, *names)
        other._hands = self._hands
        other._letters = self._letters
        return other

    def _row_of(self, hand):
        """The row of a hand; raises the error for any value that is no name of one."""
        for row in self._hands:
            if row[0] == hand:
                return row
        raise UnknownName(hand)

    def _letter(self, number):
        """The letter with a number; raises the error for any value that is no number of one."""
        if not is_number(number, 0, len(self._letters) - 1):
            raise UnknownLetter(number)
        return self._letters[number]

    def _put(self, name, behind):
        """Gives a hand another work and other letters laid by, as caught_up tells them."""
        work, laid, taken = behind
        self._hands = tuple([(name, work, laid) if row[0] == name else row for row in self._hands])

    def _did(self, deed):
        """Does a deed; its result."""
        word = deed[0]
        if word == "do":
            return self.do(deed[1], deed[2])
        if word == "take":
            return self.take(deed[1], deed[2])
        if word == "meet":
            return self.meet(deed[1], deed[2])
        if word == "branch":
            return self.branch(deed[1], deed[2])
        if word == "out":
            return self.take_out(deed[1], deed[2])
        if word == "drop":
            return self.drop(deed[1])
        return self.post(deed[1], deed[2])

    def __contains__(self, x):
        return x in [row[0] for row in self._hands]

    def __eq__(self, other):
        if not isinstance(other, Store) or self.book != other.book or self.start != other.start:
            return False
        return self._hands == other._hands and self._letters == other._letters

    def __len__(self):
        return len(self._hands)

    def __bool__(self):
        return True

    def __repr__(self):
        return f"Store({len(self._hands)} hands, {len(self._letters)} letters)"


def is_deed(value):
    """Whether any value is a tuple with the form of a deed of stores."""
    if not isinstance(value, tuple) or len(value) == 0 or not isinstance(value[0], str):
        return False
    return DEEDS.get(value[0], 0) == len(value)


def check_hands(names):
    """Raises the errors of the constructor of stores for its hands."""
    if not names:
        raise LastHand()
    if len(names) > MOST_HANDS:
        raise TooMany(MOST_HANDS)
    for name in names:
        if not is_name(name):
            raise InvalidName(name)
    for at, name in enumerate(names):
        check_new_name(name, names[:at])


def check_new_name(value, names):
    """Raises the errors for any value that is no name, or one that is there already."""
    if not is_name(value):
        raise InvalidName(value)
    if value in names:
        raise DuplicateName(value)


def caught_up(letters, work, laid):
    """The triple of a work, the letters laid by and those taken, behind taking each one whose ground is there.

    letters is the list of all letters, of which laid has the ascending numbers of those that are laid by now.
    """
    taken = []
    waiting = list(laid)
    number = first_ready(letters, work, waiting)
    while number is not None:
        work = settled(joined(work, letters[number][1]))
        taken.append(number)
        waiting = [other for other in waiting if other != number]
        number = first_ready(letters, work, waiting)
    return work, tuple(waiting), taken


def first_ready(letters, work, numbers):
    """The first of some numbers of letters whose ground is within a work, None if there is none."""
    for number in numbers:
        if within(letters[number][0], work):
            return number
    return None
