"""What several tests need."""

import unittest


class Case(unittest.TestCase):
    """A test case that asks for errors of exactly one class."""

    def raises(self, kind, action, *values, **named):
        """Check that a call raises an error of exactly this class, and return it."""
        told = getattr(action, "__name__", action.__class__.__name__)
        try:
            result = action(*values, **named)
        except Exception as error:
            self.assertIs(error.__class__, kind, f"{told} raised {error.__class__.__name__}")
            return error
        self.fail(f"{told} returned {result!r:.300} instead of raising {kind.__name__}")

    def same(self, one, other):
        """Check that two values are equal, and that True and 1 are not taken for each other."""
        self.assertEqual(repr(one), repr(other))
