"""The answers to questions about stores, as texts."""

from remainways.needs import needed
from remainways.nextlook import next_place
from remainways.places import place_text
from remainways.remains import within
from remainways.rests import full_layers
from remainways.terms import Term
from remainways.why import why

NOTHING_THERE = "none"


def joined_words(words):
    """Words with spaces between, or the word for none."""
    return " ".join(words) or NOTHING_THERE


def answer_of(store, words, rounds):
    """The answer to a question about a store: its first word, and the words behind the name of the store."""
    first, hand = words[:2]
    if first == "term":
        return store.way_of(hand).end.text()
    if first == "key":
        return store.key_text(hand)
    if first == "laid":
        return joined_words([str(number) for number in store.laid(hand)])
    if first == "lacks":
        return store.lacks(hand, words[2]).text()
    if first == "within":
        work = store.way_of(hand)
        return "yes" if within(work, store.way_of(words[2])) else "no"
    if first == "why":
        work = store.way_of(hand)
        return why(work, piece=Term.read(words[2])).text()
    return answer_on_end(first, store.book, store.way_of(hand).end, rounds)


def answer_on_end(first, book, end, rounds):
    """The answer to a question about the end of a work."""
    if first == "rest":
        word, way, index = full_layers(book, end, rounds=rounds)
        return f"{word} {way.end.text()}" if word == "rest" else word
    if first == "needed":
        return joined_words([place_text(place) for place in needed(book, end, rounds=rounds)])
    place = next_place(book, end)
    return NOTHING_THERE if place is None else place_text(place)
