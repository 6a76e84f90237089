"""The document's definition of stores, told once more, as in tests/waywords.py: lots and keys instead of objects."""

from tests.helper import done_by_words, steps_by_words
from tests.waywords import (common_by_words, key_by_words, layers_by_words, left_way_by_words, terms_by_words,
                            within_by_words, without_by_words)


class StoreByWords:
    """[35] to [38]: hands with their lots and the numbers laid by, and letters."""

    def __init__(self, book, start, *hands):
        self.book, self.start = book, start
        self.works = {name: [] for name in hands}
        self.laid = {name: [] for name in hands}
        self.letters = []

    def settled(self, lots):
        """The layers of a way of these lots."""
        return layers_by_words(self.book, self.start, lots)

    def is_within(self, lots, others):
        """Whether a way is within another one."""
        return within_by_words(self.book, self.start, lots, others)

    def end(self, lots):
        """The end of a way."""
        return terms_by_words(self.book, self.start, lots)[-1]

    def steps(self, hand):
        """The step places of the end of the work of a hand."""
        return steps_by_words(self.book, self.end(self.works[hand]))

    def join(self, hand, lots):
        """The work of a hand becomes the settled join with a way."""
        work = self.works[hand]
        self.works[hand] = self.settled(work + left_way_by_words(self.book, self.start, lots, work))

    def catch_up(self, hand):
        """Takes letters that are laid by and whose ground is there, the least number first."""
        taken = []
        while True:
            ready = [number for number in self.laid[hand] if self.is_within(self.letters[number][0], self.works[hand])]
            if not ready:
                return taken
            number = min(ready)
            self.laid[hand].remove(number)
            self.join(hand, self.letters[number][0] + [self.letters[number][1]])
            taken.append(number)

    def do(self, hand, lot):
        lot = tuple(sorted(set(lot)))
        self.letters.append((self.works[hand], lot))
        self.works[hand] = self.settled(self.works[hand] + [lot])
        self.catch_up(hand)
        return len(self.letters) - 1

    def take(self, hand, number):
        ground, lot = self.letters[number]
        if not self.is_within(ground, self.works[hand]):
            self.laid[hand] = sorted(set(self.laid[hand]) | {number})
            return []
        self.join(hand, ground + [lot])
        self.laid[hand] = [other for other in self.laid[hand] if other != number]
        return [number] + self.catch_up(hand)

    def meet(self, hand, other):
        self.join(hand, self.works[other])
        return self.catch_up(hand)

    def branch(self, hand, name):
        self.works[name], self.laid[name] = self.works[hand], self.laid[hand]

    def out(self, hand, place):
        self.works[hand] = without_by_words(self.book, self.start, self.works[hand], (place,))

    def drop(self, hand):
        del self.works[hand], self.laid[hand]

    def post(self, ground, lot):
        self.letters.append((list(ground), tuple(sorted(set(lot)))))
        return len(self.letters) - 1

    def has_letter(self, hand, number):
        ground, lot = self.letters[number]
        return self.is_within(ground + [lot], self.works[hand])

    def lacks(self, hand, other):
        return left_way_by_words(self.book, self.start, self.works[other], self.works[hand])

    def common(self, hand, other):
        return common_by_words(self.book, self.start, self.works[hand], self.works[other])

    def told(self):
        """All that a store tells: its hands with their keys and what they laid by, and its letters."""
        hands = [(name, key_by_words(self.works[name]), self.laid[name]) for name in self.works]
        return hands, [(key_by_words(ground), lot) for ground, lot in self.letters]


def told_by(store):
    """The same of a store of the program."""
    return [(name, store.key_text(name), store.laid(name)) for name in store.hands()], store.letters()


def random_deed(dice, model, most=60):
    """A deed that can be done, with the ground of a post as lots; None if it would lead to a great term."""
    hand = dice.choice(list(model.works))
    words = ["do"] * 4 + ["take"] * 5 * bool(model.letters) + ["meet"] + ["branch"] * (len(model.works) < 5)
    words += ["drop"] * (len(model.works) > 3) + ["post"]
    words += ["out"] * (model.book.first_striking() is None and bool(steps_by_words(model.book, model.start)))
    word = dice.choice(words)
    if word == "do":
        steps = model.steps(hand)
        lot = dice.sample(steps, min(len(steps), dice.choice((0, 1, 1, 1, 2))))
        return ("do", hand, lot) if done_by_words(model.book, model.end(model.works[hand]), lot).size() <= most else None
    if word == "take":
        return ("take", hand, dice.randrange(len(model.letters)))
    if word == "meet":
        return ("meet", hand, dice.choice(list(model.works)))
    if word == "branch":
        return ("branch", hand, dice.choice([name for name in "cdefghij" if name not in model.works]))
    if word == "out":
        return ("out", hand, dice.choice(steps_by_words(model.book, model.start)))
    if word == "drop":
        return ("drop", hand)
    ground = model.works[hand][:dice.randint(0, 2)]
    steps = steps_by_words(model.book, model.end(ground))
    return ("post", tuple(ground), dice.sample(steps, min(len(steps), 1)))
