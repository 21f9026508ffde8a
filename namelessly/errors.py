"""The errors of the package: what is refused, each kind with a class of its own.

Each __init__ hands its message on to the class above: otherwise args would hold
the caller's own list or dict.
"""

from namelessly.helpers import kept


class NamelessError(ValueError):
    """What is handed in cannot be taken."""


class TooMany(NamelessError):
    """There would be more than a cap allows."""


class BadDeed(NamelessError):
    """A deed is of no known form, or cannot be done."""


class NothingDone(NamelessError):
    """There is nothing to undo or to redo."""


class BadName(NamelessError):
    """A name, a colour, a kind or a letter is not a word."""

    def __init__(self, name):
        self.name = kept(name)
        super().__init__(f"not a word: {self.name!r}")


class TwiceTold(NamelessError):
    """A name is told a second time."""

    def __init__(self, name):
        self.name = kept(name)
        super().__init__(f"told twice: {self.name!r}")


class BadTie(NamelessError):
    """The tie with this number cannot stand."""

    def __init__(self, number):
        self.number = kept(number)
        super().__init__(f"no such tie can stand: {self.number!r}")


class BadTree(NamelessError):
    """A value is no tree: this line is wrong."""

    def __init__(self, line):
        self.line = kept(line)
        super().__init__(f"no tree, by line {self.line!r}")


class BadSaying(NamelessError):
    """A value is no saying: this line is wrong."""

    def __init__(self, line):
        self.line = kept(line)
        super().__init__(f"no saying, by line {self.line!r}")


class BadMachine(NamelessError):
    """A value is no machine: this round is wrong."""

    def __init__(self, number):
        self.number = kept(number)
        super().__init__(f"no machine, by round {self.number!r}")


class BadNumber(NamelessError):
    """A number, a length or the thing at a place in a list is wrong."""

    def __init__(self, number):
        self.number = kept(number)
        super().__init__(f"a wrong number, length or place in a list: {self.number!r}")


class Clash(NamelessError):
    """Two moments cannot be merged: they clash at these spots."""

    def __init__(self, spots):
        self.spots = kept(spots)
        super().__init__(f"the moments clash at: {self.spots!r}")


class BadText(NamelessError):
    """The line with this number cannot stand in the text of a web."""

    def __init__(self, place):
        self.place = kept(place)
        super().__init__(f"a line that cannot stand: {self.place!r}")


class NameMissing(LookupError):
    """Nothing of this name or number is there."""


class UnknownName(NameMissing):
    """Nothing has this name."""

    def __init__(self, name):
        self.name = kept(name)
        super().__init__(f"nothing has this name: {self.name!r}")


class NoMoment(NameMissing):
    """No moment has this number."""

    def __init__(self, number):
        self.number = kept(number)
        super().__init__(f"no moment has this number: {self.number!r}")
