"""What the tests of several modules check in the same way."""

import unittest


class Case(unittest.TestCase):
    def assert_refused(self, refusal, act, *given, **named):
        """The very refusal comes, not one right above or beneath it; it is told."""
        try:
            act(*given, **named)
        except ValueError as caught:
            if type(caught) is not refusal:
                self.fail(f"{type(caught).__name__} for {ascii((given, named))[:200]}")
            return caught
        self.fail(f"no refusal for {ascii((given, named))[:200]}")

    def assert_same(self, told, wanted, why=None):
        """Also of one kind, throughout: to Python True is 1, and here it is not."""
        self.assertEqual(told, wanted, why)
        self.assertEqual(repr(told), repr(wanted), why)
