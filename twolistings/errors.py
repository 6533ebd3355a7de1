"""The errors of the package; each attribute is the argument as it is handed in."""


class TwoError(ValueError):
    """What all errors of the package are."""


class BadModes(TwoError):
    """Something that is no list of one to three modes, as Rule needs them."""


class BadRow(TwoError):
    """The first element, by place, that is no row of its event."""

    def __init__(self, place):
        self.place = place


class NoPlace(TwoError):
    """A value that is no place of a rule."""

    def __init__(self, place):
        self.place = place


class BadRecord(TwoError):
    """The first element that is no record, or cannot stand where it stands."""

    def __init__(self, number):
        self.number = number


class NoRecord(TwoError):
    """A value that is no number of a record."""

    def __init__(self, number):
        self.number = number


class BadEvent(TwoError):
    """The first element that is no tuple of a line at its place."""

    def __init__(self, number):
        self.number = number


class BadRules(TwoError):
    """Something that is no list of one to three rules."""


class BadPlan(TwoError):
    """Something that is no plan."""


class NoQuestion(TwoError):
    """A value that is none of the three questions."""

    def __init__(self, word):
        self.word = word


class BadPosition(TwoError):
    """Something that is no position in an edit."""


class BadSaying(TwoError):
    """A value that may not be said at a step."""

    def __init__(self, saying):
        self.saying = saying


class BadWriter(TwoError):
    """The first element of a writer that is no tuple of it."""

    def __init__(self, at):
        self.at = at


class BadDeed(TwoError):
    """The first element of deeds that is no deed, or cannot be done."""

    def __init__(self, at):
        self.at = at


class Parted(TwoError):
    """A name for which the rules do not show the same."""

    def __init__(self, name):
        self.name = name


class NoBook(TwoError):
    """Something that is no book, or a book that is not to be had."""


class NoDefeat(TwoError):
    """Something that is no defeat."""


class BadName(TwoError):
    """Something that is no name."""


class BadThing(TwoError):
    """Something that is no thing."""


class BadSteps(TwoError):
    """Something that is no number of steps of an edit."""


class OffBook(TwoError):
    """A record after which a name is at no position of the book."""

    def __init__(self, number, name):
        self.number = number
        self.name = name


class Barred(TwoError):
    """A name that bars an edit, or an archive, from a clean table."""

    def __init__(self, name):
        self.name = name


class BadOrder(TwoError):
    """Something that is no list of all names of a table, each once."""


class BadText(TwoError):
    """The first record that is not written as the text of an archive."""

    def __init__(self, number):
        self.number = number
