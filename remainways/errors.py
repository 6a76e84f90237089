"""The errors of the package: three families, and the errors of each of them."""


class WorkError(ValueError):
    """A value that is given is not as it must be."""


class Missing(LookupError):
    """Something that is asked for is not there."""


class NothingLeft(IndexError):
    """There is none with this number, or nothing that could be taken back."""


class InvalidName(WorkError):
    """The value is no name, or no word of a term."""

    def __init__(self, value):
        self.code = "InvalidName"
        self.value = value


class InvalidPart(WorkError):
    """The part with this index is no term."""

    def __init__(self, at):
        self.code = "InvalidPart"
        self.at = at


class InvalidSide(WorkError):
    """The side that the word tells is no side of a rule."""

    def __init__(self, word):
        self.code = "InvalidSide"
        self.word = word


class InvalidDue(WorkError):
    """The value is no due."""

    def __init__(self, value):
        self.code = "InvalidDue"
        self.value = value


class InvalidRule(WorkError):
    """The item with this index is no rule."""

    def __init__(self, at):
        self.code = "InvalidRule"
        self.at = at


class InvalidRow(WorkError):
    """The row with this index is no row of a retelling."""

    def __init__(self, at):
        self.code = "InvalidRow"
        self.at = at


class InvalidText(WorkError):
    """So many characters of this line can stand, and no more."""

    def __init__(self, line, at):
        self.code = "InvalidText"
        self.line = line
        self.at = at


class InvalidTerm(WorkError):
    """The value is no term of the kind that is asked for."""

    def __init__(self):
        self.code = "InvalidTerm"


class InvalidLot(WorkError):
    """The lot with this index is no list and no tuple."""

    def __init__(self, at):
        self.code = "InvalidLot"
        self.at = at


class NoStep(WorkError):
    """The lot with this index has a place that is no step place."""

    def __init__(self, at, place):
        self.code = "NoStep"
        self.at = at
        self.place = place


class InvalidNumber(WorkError):
    """The value is no number between the bounds."""

    def __init__(self, value):
        self.code = "InvalidNumber"
        self.value = value


class TooMany(WorkError):
    """There are more than may be."""

    def __init__(self, most):
        self.code = "TooMany"
        self.most = most


class TooGreat(WorkError):
    """A term is not fit."""

    def __init__(self):
        self.code = "TooGreat"


class TwiceHole(WorkError):
    """The hole stands twice in a left side."""

    def __init__(self, hole):
        self.code = "TwiceHole"
        self.hole = hole


class LooseHole(WorkError):
    """The hole of a right side does not stand in the left side."""

    def __init__(self, hole):
        self.code = "LooseHole"
        self.hole = hole


class Overlaps(WorkError):
    """The left side of the other rule stands on that of the one at this place."""

    def __init__(self, one, other, place, piece):
        self.code = "Overlaps"
        self.one = one
        self.other = other
        self.place = place
        self.piece = piece


class NotTurned(WorkError):
    """The new sign of the row with this index is no old sign."""

    def __init__(self, at):
        self.code = "NotTurned"
        self.at = at


class OtherStart(WorkError):
    """Two ways do not begin alike, or do not fit together."""

    def __init__(self):
        self.code = "OtherStart"


class OtherBook(WorkError):
    """Ways have different books."""

    def __init__(self):
        self.code = "OtherBook"


class Alike(WorkError):
    """Two ways are the same work."""

    def __init__(self):
        self.code = "Alike"


class Strikes(WorkError):
    """The rule with this index strikes."""

    def __init__(self, rule):
        self.code = "Strikes"
        self.rule = rule


class Copies(WorkError):
    """The rule with this index copies."""

    def __init__(self, rule):
        self.code = "Copies"
        self.rule = rule


class NotPiece(WorkError):
    """The value is no piece of the term."""

    def __init__(self):
        self.code = "NotPiece"


class Clash(WorkError):
    """Two pieces have different signs at this place."""

    def __init__(self, place):
        self.code = "Clash"
        self.place = place


class NoRest(WorkError):
    """The full layers end with this word instead of a rest."""

    def __init__(self, word):
        self.code = "NoRest"
        self.word = word


class Needed(WorkError):
    """Each way to the rest does an image of this step place."""

    def __init__(self, place):
        self.code = "Needed"
        self.place = place


class InvalidKnot(WorkError):
    """The row with this index is no knot."""

    def __init__(self, at):
        self.code = "InvalidKnot"
        self.at = at


class InvalidMaker(WorkError):
    """The item with this index is no maker, or stands ahead."""

    def __init__(self, at):
        self.code = "InvalidMaker"
        self.at = at


class NotSplit(WorkError):
    """The left side of the rule has a doer at this place beneath its top."""

    def __init__(self, rule, place):
        self.code = "NotSplit"
        self.rule = rule
        self.place = place


class NoTree(WorkError):
    """The doer has no tree: these rules are stuck on this piece."""

    def __init__(self, doer, sides, piece):
        self.code = "NoTree"
        self.doer = doer
        self.sides = sides
        self.piece = piece


class NotWithin(WorkError):
    """The part is not within the way."""

    def __init__(self):
        self.code = "NotWithin"


class NotClosed(WorkError):
    """The event is there without this cause of it."""

    def __init__(self, event, cause):
        self.code = "NotClosed"
        self.event = event
        self.cause = cause


class NotRow(WorkError):
    """The item with this index cannot stand there in an order."""

    def __init__(self, at):
        self.code = "NotRow"
        self.at = at


class NotKey(WorkError):
    """The text is not the key of its way."""

    def __init__(self):
        self.code = "NotKey"


class DuplicateName(WorkError):
    """The name is there already."""

    def __init__(self, name):
        self.code = "DuplicateName"
        self.name = name


class LastHand(WorkError):
    """A store keeps one hand at least."""

    def __init__(self):
        self.code = "LastHand"


class InvalidDeed(WorkError):
    """The item with this index is no deed."""

    def __init__(self, at):
        self.code = "InvalidDeed"
        self.at = at


class UnknownName(Missing):
    """There is nothing of this name."""

    def __init__(self, name):
        self.code = "UnknownName"
        self.name = name


class UnknownDoer(Missing):
    """The value is no doer."""

    def __init__(self, doer):
        self.code = "UnknownDoer"
        self.doer = doer


class UnknownEvent(Missing):
    """The value is no event of the way."""

    def __init__(self, event):
        self.code = "UnknownEvent"
        self.event = event


class UnknownLetter(Missing):
    """There is no letter with this number."""

    def __init__(self, number):
        self.code = "UnknownLetter"
        self.number = number


class NoPlace(Missing):
    """The value is no place of the term."""

    def __init__(self, place):
        self.code = "NoPlace"
        self.place = place


class NoOrder(NothingLeft):
    """There is no order with this number."""

    def __init__(self, number):
        self.code = "NoOrder"
        self.number = number


class NoHistory(NothingLeft):
    """There is no step that could be taken back or done again."""

    def __init__(self):
        self.code = "NoHistory"
