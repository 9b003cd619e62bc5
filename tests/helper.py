"""What several test files need."""

from collections import namedtuple
from fractions import Fraction

# One kind under each kind that may be handed in.
Pair = namedtuple("Pair", "one other")


class Whole(int):
    """A whole number of a kind under int."""


class HelperMixin:
    """Checks that go beside those of unittest.TestCase."""

    def assert_told(self, told, awaited):
        """The same value, of the very same kinds all the way down (True is not 1 here)."""
        self.assertEqual(told, awaited)
        self.assert_same_kinds(told, awaited)

    def assert_same_kinds(self, told, awaited):
        self.assertIs(type(told), type(awaited), (told, awaited))
        if isinstance(awaited, (tuple, list)):
            for part, awaited_part in zip(told, awaited, strict=True):
                self.assert_same_kinds(part, awaited_part)

    def assert_refused(self, error_class, deed, *things):
        """Refused with this very class, and with no other one that happens to stand under it."""
        with self.assertRaises(error_class) as caught:
            deed(*things)
        self.assertIs(type(caught.exception), error_class)
        return caught.exception


def as_pair(exact):
    """A fraction of Python's own as the tuple that the program is to tell."""
    return (exact.numerator, exact.denominator)


def as_exact(pair):
    return Fraction(pair[0], pair[1])


def spot(x, y):
    """The spot of two numbers, whole or Python's own fractions."""
    return (as_pair(Fraction(x)), as_pair(Fraction(y)))


def kinds_under(value):
    """The same value made of kinds under int and tuple."""
    if isinstance(value, tuple):
        return Pair(kinds_under(value[0]), kinds_under(value[1]))
    return Whole(value)
