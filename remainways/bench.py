"""Benches: books and stores by name, with a history, and answers to questions."""

from remainways.answers import answer_of, joined_words
from remainways.books import Book
from remainways.errors import DuplicateName, InvalidDeed, InvalidName, Missing, NoHistory, NothingLeft
from remainways.errors import UnknownName, WorkError
from remainways.rests import ROUNDS, check_rounds
from remainways.stores import Store, is_deed
from remainways.terms import Term
from remainways.words import is_name

# The deeds, and the questions, by their first words, with their numbers of items.
DEEDS = {"book": 3, "store": 5, "at": 3, "close": 2}
QUESTIONS = {
    "books": 1, "stores": 1, "undo": 1, "redo": 1, "hands": 2, "term": 3, "key": 3, "laid": 3, "rest": 3, "needed": 3,
    "next": 3, "lacks": 4, "within": 4, "why": 4,
}


class Bench:
    """Books and stores by name, and a number of rounds.

    A step of the history is kept as its call and the state behind it. The dicts of a state and the stores in them are
    never changed: a deed is done with a twin of its store.
    """

    def __init__(self):
        self._books = {}
        self._stores = {}
        # The states, the first one without books and stores, and the calls that lead from each to the next one.
        self._states = [(self._books, self._stores)]
        self._calls = []
        self._at = 0
        self._rounds = ROUNDS
        self._busy = False
        self._log = []

    def do(self, *deeds):
        """Does deeds, all or none; the list of their results."""
        check_deeds(deeds)
        self._busy = True
        try:
            state, results = state_behind(self._books, self._stores, deeds)
        finally:
            self._busy = False
        if deeds:
            self._calls = self._calls[:self._at] + [tuple([written(deed) for deed in deeds])]
            self._states = self._states[:self._at + 1] + [state]
            self._go_to(self._at + 1)
        return results

    def undo(self):
        """Takes the last step back."""
        if self._at == 0:
            raise NoHistory()
        self._go_to(self._at - 1)

    def redo(self):
        """Does the step again that was taken back last."""
        if self._at == len(self._calls):
            raise NoHistory()
        self._go_to(self._at + 1)

    def history(self):
        """The pair of the numbers of steps that can be undone and redone."""
        return (self._at, len(self._calls) - self._at)

    def journal(self):
        """The list of the calls that are steps and not taken back."""
        return self._calls[:self._at]

    @staticmethod
    def replay(calls):
        """A new bench that did the calls of a journal in order."""
        bench = Bench()
        for call in calls:
            bench.do(*call)
        return bench

    def tried(self, *deeds):
        """A bench in the state that this one would have behind these deeds, without history and log."""
        check_deeds(deeds)
        state, results = state_behind(self._books, self._stores, deeds)
        bench = Bench()
        bench._states = [state]
        bench._go_to(0)
        bench._rounds = self._rounds
        return bench

    def books(self):
        """The list of the names of the books, in the order in which they came."""
        return list(self._books)

    def stores(self):
        """The list of the names of the stores, in the order in which they came."""
        return list(self._stores)

    def book_named(self, name):
        """The book with a name."""
        return named(self._books, name)

    def store_named(self, name):
        """A twin of the store with a name."""
        return named(self._stores, name).twin()

    @property
    def rounds(self):
        """The number of rounds."""
        return self._rounds

    @rounds.setter
    def rounds(self, value):
        check_rounds(value)
        self._rounds = value

    def set_rounds(self, rounds):
        """Assigns the number of rounds."""
        self.rounds = rounds

    @property
    def busy(self):
        """Whether do is doing deeds."""
        return self._busy

    def say(self, line):
        """The answer to a line, which is put into the log."""
        answer = self._answer(line)
        self._log.append((line, answer))
        return answer

    def log(self):
        """The list of the pairs (line, answer)."""
        return list(self._log)

    def twin(self):
        """An independent bench in the same state, with its history, rounds and log."""
        bench = Bench()
        bench._states = list(self._states)
        bench._calls = list(self._calls)
        bench._go_to(self._at)
        bench._rounds = self._rounds
        bench._log = list(self._log)
        return bench

    def _go_to(self, at):
        """Goes to the state with an index."""
        self._at = at
        self._books, self._stores = self._states[at]

    def _answer(self, line):
        """The answer to a line."""
        words = line.split(" ")
        if "\n" in line or "" in words or QUESTIONS.get(words[0], 0) != len(words):
            return "unknown"
        try:
            return self._answer_words(words)
        except (WorkError, Missing, NothingLeft) as error:
            return f"error {error.code}"

    def _answer_words(self, words):
        """The answer to the words of a question."""
        first = words[0]
        if first == "books":
            return joined_words(self.books())
        if first == "stores":
            return joined_words(self.stores())
        if first == "undo":
            self.undo()
            return "done"
        if first == "redo":
            self.redo()
            return "done"
        store = named(self._stores, words[1])
        return joined_words(store.hands()) if first == "hands" else answer_of(store, [first] + words[2:], self._rounds)

    def __call__(self, line):
        return self.say(line)

    def __eq__(self, other):
        if not isinstance(other, Bench):
            return False
        books = list(self._books.items()) == list(other._books.items())
        return books and list(self._stores.items()) == list(other._stores.items())

    def __len__(self):
        return len(self._stores)

    def __bool__(self):
        return True

    def __repr__(self):
        return f"Bench({len(self._books)} books, {len(self._stores)} stores)"


def check_deeds(values):
    """Raises the error for the first value that is no deed of benches."""
    for at, value in enumerate(values):
        if not is_bench_deed(value):
            raise InvalidDeed(at)


def is_bench_deed(value):
    """Whether any value is a tuple with the form of a deed of benches."""
    if not isinstance(value, tuple) or len(value) == 0 or not isinstance(value[0], str):
        return False
    return DEEDS.get(value[0], 0) == len(value) and (value[0] != "at" or is_deed(value[2]))


def named(table, name):
    """What has a name in a dict; raises the error for any value that is no name there."""
    if not is_name(name) or name not in table:
        raise UnknownName(name)
    return table[name]


def check_new(table, name):
    """Raises the errors for any value that is no name, or one that is in a dict already."""
    if not is_name(name):
        raise InvalidName(name)
    if name in table:
        raise DuplicateName(name)


def state_behind(books, stores, deeds):
    """The pair of the state behind deeds, as a pair of dicts, and the list of their results."""
    results = []
    for deed in deeds:
        books, stores, result = behind(books, stores, deed)
        results.append(result)
    return (books, stores), results


def behind(books, stores, deed):
    """The triple of the books and the stores behind a deed, and its result."""
    word, name = deed[:2]
    if word == "book":
        check_new(books, name)
        return {**books, name: Book.read(deed[2])}, stores, None
    if word == "store":
        check_new(stores, name)
        book = named(books, deed[2])
        return books, {**stores, name: Store(book, Term.read(deed[3]), deed[4])}, None
    store = named(stores, name).twin()
    if word == "close":
        return books, {other: stores[other] for other in stores if other != name}, None
    result = store.together(deed[2])[0]
    return books, {**stores, name: store}, result


def written(deed):
    """A deed as the journal tells it."""
    if deed[0] == "at" and deed[2][0] in ["do", "post"]:
        word, ground, lot = deed[2]
        return ("at", deed[1], (word, ground, tuple(sorted(set(lot)))))
    return deed
