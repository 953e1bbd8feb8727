"""Papers, which tell an answer and what shows it, and denials, the papers that say no."""

from bendsigns.checks import is_integer


def fixed(value):
    """Any value with tuples in the place of lists, all the way in."""
    if isinstance(value, (list, tuple)):
        return tuple([fixed(each) for each in value])
    return value


def is_named(paper, name):
    """Whether a paper was made by calling the class of this name itself, not one below it."""
    return paper.__class__.__name__ == name


def is_just(value, wanted):
    """Whether any value is just these integers, in tuples as wanted has them, and None where it has None."""
    if isinstance(wanted, tuple):
        if not isinstance(value, tuple) or len(value) != len(wanted):
            return False
        return all([is_just(value[index], wanted[index]) for index in range(len(wanted))])
    if wanted is None:
        return value is None
    # True and False equal numbers, but stand for none.
    return is_integer(value) and value == wanted


def are_same(paper, other):
    """Whether two papers are of one class, with the same word and the same parts."""
    if not isinstance(other, Paper) or not is_named(other, paper.__class__.__name__):
        return False
    return paper.word == other.word and paper.parts == other.parts


class Paper:
    """A paper: a word and parts. It is true."""

    def __init__(self, word, *parts):
        self.word = fixed(word)
        self.parts = fixed(parts)

    def __eq__(self, other):
        return are_same(self, other)

    def __bool__(self):
        return True


class Denial(Paper):
    """A paper that says no. It is false."""

    def __init__(self, word, *parts):
        Paper.__init__(self, word, *parts)

    def __eq__(self, other):
        return are_same(self, other)

    def __bool__(self):
        return False
