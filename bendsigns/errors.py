"""The errors of the package: each one keeps its fields in attributes of their names."""


class BendError(ValueError):
    """The base of all errors of the package."""


class BadNumber(BendError):
    """An integer, or a list of integers, that is none or not within its bounds."""

    def __init__(self, part):
        self.part = part


class BadFour(BendError):
    """What is no four."""

    def __init__(self, part):
        self.part = part


class BadWord(BendError):
    """What is no list of places."""

    def __init__(self, part):
        self.part = part


class BadForm(BendError):
    """What is no form."""

    def __init__(self, part):
        self.part = part


class BadKind(BendError):
    """What is no kind."""

    def __init__(self, part):
        self.part = part


class BadPair(BendError):
    """What is no pair that can stand here."""

    def __init__(self, part):
        self.part = part


class BadPaper(BendError):
    """What is no paper of the class that is asked for."""

    def __init__(self, part):
        self.part = part


class BadDesk(BendError):
    """What is no desk, or nothing that a desk can keep."""

    def __init__(self, part):
        self.part = part


class Misfit(BendError):
    """Values that do not fit together."""

    def __init__(self, part):
        self.part = part


class Missing(BendError):
    """Any value that is none here."""

    def __init__(self, value):
        self.value = value


class NoPlace(Missing):
    """A value that is no place of a four."""

    def __init__(self, value):
        Missing.__init__(self, value)


class NoName(Missing):
    """A value that is no name of anything that is kept."""

    def __init__(self, value):
        Missing.__init__(self, value)


class Twice(BendError):
    """A value that stands there already."""

    def __init__(self, value):
        self.value = value


class Impossible(BendError):
    """What cannot be, with a paper that shows it."""

    def __init__(self, paper):
        self.paper = paper


class TooMany(BendError):
    """There are more of something than most."""

    def __init__(self, what, most):
        self.what = what
        self.most = most


class Flat(BendError):
    """A line where a circle is asked for, or a flat gasket."""


class Nothing(BendError):
    """There is nothing to take back or to do again."""


class BadText(BendError):
    """A text in which an item cannot stand."""

    def __init__(self, line, item):
        self.line = line
        self.item = item


class BadLine(BendError):
    """A line of a desk, and the error that was raised there."""

    def __init__(self, line, error):
        self.line = line
        self.error = error
