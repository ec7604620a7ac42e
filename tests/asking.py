"""A test case that asks whether errors are raised as told."""

import unittest


class Asking(unittest.TestCase):
    """Test cases with what is common to them."""

    def refused(self, error, function, *given):
        """Hold that a call raises just this error, and return it."""
        with self.assertRaises(error) as caught:
            function(*given)
        self.assertIs(type(caught.exception), error)
        return caught.exception

    def too_many(self, limit, function, *given):
        """Hold that a call raises TooMany with a limit."""
        from puttingback.errors import TooMany
        self.assertEqual(self.refused(TooMany, function, *given).limit, limit)

    def says(self, expected, value):
        """Hold that a value is just True or just False, as expected."""
        self.assertIs(value, expected)
