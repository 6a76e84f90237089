"""Terms: names with their arguments, holes and blanks."""

from remainways.errors import InvalidName, InvalidPart, InvalidText, NoPlace, TooGreat, TooMany
from remainways.places import TOP, is_place
from remainways.words import BLANK, is_hole, is_name

MOST_PLACES = 2000
MOST_LEVELS = 100
# A term of shared parts may have more places than numbers should have figures; from here on it is just great.
COUNTED_PLACES = 10 ** 18


class Mark:
    """Tells one object from an equal one, also as a key of a dict."""


class Term:
    """A name with 0 to 4 arguments, a hole alone, or a blank alone; it never changes."""

    def __init__(self, word, *parts):
        check_parts(word, parts)
        self.word = word
        self.mark = Mark()
        self._parts = parts
        self._sign = (word, len(parts)) if is_name(word) else None
        self._size = min(COUNTED_PLACES, 1 + sum([part._size for part in parts]))
        self._levels = 1 + max([part._levels for part in parts], default=0)
        self._has_hole = is_hole(word) or any([part._has_hole for part in parts])
        self._has_blank = word == BLANK or any([part._has_blank for part in parts])

    def parts(self):
        """The list of the arguments."""
        return list(self._parts)

    def sign(self):
        """The pair (name, number of arguments), None for a hole or a blank at the top."""
        return self._sign

    def size(self):
        """The number of the places, up to 10**18; unlike len it costs the same however great the term is."""
        return self._size

    @property
    def levels(self):
        """The length of the longest place plus 1."""
        return self._levels

    def sub(self, place):
        """The subterm at a place."""
        found = find_sub(self, place)
        if found is None:
            raise NoPlace(place)
        return found

    def with_sub(self, place, term):
        """The term with another subterm at a place."""
        if find_sub(self, place) is None:
            raise NoPlace(place)
        above = [self]
        for number in place:
            above.append(above[-1]._parts[number - 1])
        made = term
        for many in range(len(place) - 1, -1, -1):
            parts = list(above[many]._parts)
            parts[place[many] - 1] = made
            made = Term(above[many].word, *parts)
        return made

    def places(self):
        """The ascending list of the places."""
        return [place for place, part in walk(self)]

    def holes(self):
        """The list of the holes by their first places, each once."""
        seen = {}
        found = {}
        waiting = [self]
        while waiting:
            part = waiting.pop()
            if part.mark not in seen:
                seen[part.mark] = True
                if is_hole(part.word):
                    found[part.word] = True
                waiting.extend(part._parts[::-1])
        return list(found)

    def is_plain(self):
        """Whether there are neither holes nor blanks."""
        return not self._has_hole and not self._has_blank

    def is_pattern(self):
        """Whether there are no blanks."""
        return not self._has_blank

    def is_piece(self):
        """Whether there are no holes."""
        return not self._has_hole

    def is_fit(self):
        """Whether there are at most 2000 places and 100 levels."""
        return self._size <= MOST_PLACES and self._levels <= MOST_LEVELS

    def text(self):
        """The text of the term."""
        words = []
        waiting = [self]
        while waiting:
            item = waiting.pop()
            if isinstance(item, str):
                words.append(item)
            else:
                words.append(item.word)
                waiting.extend(behind_word(item._parts))
        return "".join(words)

    @staticmethod
    def read(text):
        """The term with a text."""
        if not isinstance(text, str):
            raise InvalidText(0, 0)
        end, term = scan_term(text, 0, True)
        if term is None or end < len(text):
            raise InvalidText(0, end)
        if not term.is_fit():
            raise TooGreat()
        return term

    def __iter__(self):
        return iter(self._parts)

    def __contains__(self, x):
        return find_sub(self, x) is not None

    def __and__(self, other):
        return common(self, other)

    def __eq__(self, other):
        return isinstance(other, Term) and is_same(self, other)

    def __len__(self):
        return len(list(range(self._size)))

    def __bool__(self):
        return True

    def __str__(self):
        return str(self.text())

    def __repr__(self):
        return f"Term({self.text()})"


def check_parts(word, parts):
    """Raises the errors of the constructor of terms."""
    if not is_name(word) and not is_hole(word) and word != BLANK:
        raise InvalidName(word)
    if parts and not is_name(word):
        raise TooMany(0)
    if len(parts) > 4:
        raise TooMany(4)
    for at, part in enumerate(parts):
        if not isinstance(part, Term):
            raise InvalidPart(at)


def behind_word(parts):
    """What stands behind a word in a text, arguments as terms, the last of it first."""
    if not parts:
        return []
    found = [")"]
    for part in reversed(parts):
        found.append(part)
        found.append(",")
    found[-1] = "("
    return found


def find_sub(term, place):
    """The subterm at a place, None for any value that is no place of the term."""
    if not is_place(place):
        return None
    found = term
    for number in place:
        if number > len(found._parts):
            return None
        found = found._parts[number - 1]
    return found


def walk(term):
    """The ascending list of the pairs of each place and the subterm there."""
    found = []
    waiting = [(TOP, term)]
    while waiting:
        place, part = waiting.pop()
        found.append((place, part))
        for number in range(len(part._parts), 0, -1):
            waiting.append((place + (number,), part._parts[number - 1]))
    return found


def is_same(one, other):
    """Whether two terms have equal texts."""
    # Pairs of parts that were met are not gone through again: shared parts may stand at very many places.
    met = {}
    waiting = [(one, other)]
    while waiting:
        left, right = waiting.pop()
        pair = (left.mark, right.mark)
        if left.mark != right.mark and pair not in met:
            met[pair] = True
            if not is_alike_at_top(left, right):
                return False
            waiting.extend(list(zip(left._parts, right._parts)))
    return True


def is_alike_at_top(one, other):
    """Whether two terms have the same word, as many parts, and equal size and levels."""
    if one.word != other.word or len(one._parts) != len(other._parts):
        return False
    return one._size == other._size and one._levels == other._levels


def common(one, other):
    """The common piece of two terms without holes."""
    made = {}
    waiting = [(one, other)]
    while waiting:
        left, right = waiting[-1]
        pairs = list(zip(left._parts, right._parts)) if left.sign() == right.sign() else []
        ahead = [(a, b) for a, b in pairs if (a.mark, b.mark) not in made]
        if ahead:
            waiting.extend(ahead)
        else:
            word = left.word if left.sign() == right.sign() else BLANK
            parts = [made[(a.mark, b.mark)] for a, b in pairs]
            made[(left.mark, right.mark)] = Term(word, *parts)
            waiting.pop()
    return made[(one.mark, other.mark)]


def scan_term(text, at, blanks):
    """The pair of where the text of a term that begins at an index ends, and this term.

    If none stands there, the pair of the index of the first character that cannot stand, and None.
    Blanks may stand in it if it is said so.
    """
    words = []
    rows = []
    while True:
        end = word_end(text, at, blanks)
        if end == at:
            return end, None
        if is_name(text[at:end]) and text[end:end + 1] == "(":
            words.append(text[at:end])
            rows.append([])
            at = end + 1
        else:
            at, term = close_term(text, end, Term(text[at:end]), words, rows)
            if term is None or not words:
                return at, term


def close_term(text, at, term, words, rows):
    """Puts a term that ends at an index into the arguments that are open, and ends those that end there.

    The pair of the index behind that and the last term that was put together; None instead of a term if
    the character at this index can end or go on with no argument. Closed words and rows are taken away.
    """
    while words:
        rows[-1].append(term)
        if text[at:at + 1] == "," and len(rows[-1]) < 4:
            return at + 1, term
        if text[at:at + 1] != ")":
            return at, None
        parts = rows.pop()
        term = Term(words.pop(), *parts)
        at = at + 1
    return at, term


def word_end(text, at, blanks):
    """Where the word of a term that begins at an index ends: this index itself if none stands there."""
    first = text[at:at + 1]
    if first == BLANK and blanks:
        return at + 1
    if is_lower(first):
        end = at + 1
        while end < at + 8 and is_lower(text[end:end + 1]):
            end = end + 1
        return end
    end = at
    while end < at + 4 and is_upper(text[end:end + 1]):
        end = end + 1
    return end


def is_lower(char):
    """Whether a character, or the empty string, is a lowercase letter."""
    return "a" <= char <= "z"


def is_upper(char):
    """Whether a character, or the empty string, is a capital letter."""
    return "A" <= char <= "Z"
