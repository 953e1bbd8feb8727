"""What the tests share: errors compared by their fields, and values of any kind."""

import unittest

# Values that are no integer, no place, no word and no value of any class of the package.
# A list stands in it only where it is no list of integers either.
ODD_VALUES = (
    True, False, None, "", "0", "abc", "-3 5 8 8", b"1", 1.0, 2.5, {}, {0: 1}, {0}, object(), range(4),
    [True], [None], ["0"], [[0]], [[], []], (0.0,), (0, None), [0, True], ((0, 1), (2, 3)), int, len,
)


class Case(unittest.TestCase):
    """A test case that compares errors by their class and their fields."""

    def assert_error(self, expected, call, *args, **named):
        """The call raises just this error: its class and what its fields keep."""
        try:
            told = call(*args, **named)
        except Exception as error:
            self.assertIs(type(error), type(expected), (call, args, named, error))
            self.assertEqual(kept(error), kept(expected), (call, args, named))
            return
        self.fail(f"{call} {args} {named} returned {told}")

    def assert_true(self, value):
        """The value is True itself, nothing else that is true."""
        self.assertIs(value, True)

    def assert_false(self, value):
        """The value is False itself, nothing else that is false."""
        self.assertIs(value, False)


def kept(error):
    """The fields of an error, with True and 1 told apart, and those of an error that is a field."""
    return {name: (type(value), kept(value) if isinstance(value, Exception) else value)
            for name, value in vars(error).items()}


def look_alike(name, **attributes):
    """A value of a class of this name with these attributes, that is no paper."""
    return type(name, (), attributes)()


class Looser:
    """A value that says of itself that it equals anything."""

    def __eq__(self, other):
        return True

    __hash__ = None
