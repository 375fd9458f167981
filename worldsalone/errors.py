"""The errors of the whole program."""


class HostError(ValueError):
    """What was passed is not as it has to be."""


class BadChoice(HostError):
    """A choice, or a call that stands for one, cannot be made."""


class BadPaper(HostError):
    """A question or a branch does not stand."""


class NoRoom(HostError):
    """There are too few frames of the box."""


class BadName(HostError):
    """A name is not one."""

    def __init__(self, name):
        self.name = name


class TwiceTold(HostError):
    """An entry of a list equals an earlier one."""

    def __init__(self, name):
        self.name = name


class BadMeaning(HostError):
    """A part of a meaning is wrong; word tells which."""

    def __init__(self, word):
        self.word = word


class BadMachine(HostError):
    """A part of a machine or of a box is wrong; word tells which."""

    def __init__(self, word):
        self.word = word


class BadStart(HostError):
    """A part of a start is wrong; word tells which."""

    def __init__(self, word):
        self.word = word


class BadBook(HostError):
    """The part of a book at a path is wrong."""

    def __init__(self, path):
        self.path = tuple(path)


class BadData(HostError):
    """The part of saved data at a path is wrong."""

    def __init__(self, path):
        self.path = tuple(path)


class BadText(HostError):
    """A text is refused at the line with the number place."""

    def __init__(self, place):
        self.place = place


class TooLong(HostError):
    """Something is longer than a limit."""

    def __init__(self, limit):
        self.limit = limit


class NameMissing(LookupError):
    """Something is not there under the name or number that was passed."""


class UnknownName(NameMissing):
    """There is nothing with this name."""

    def __init__(self, name):
        self.name = name


class UnknownWorld(NameMissing):
    """There is no open world with this number."""

    def __init__(self, number):
        self.number = number


class NotThere(NameMissing):
    """There is nothing with this number."""

    def __init__(self, number):
        self.number = number
