"""What all tests of refusals share."""

import unittest

from thingdeal import errors

KINDS = ["BadTable", "BadShares", "BadHeir", "BadThing", "BadRing", "BadOrder", "Full", "BadNote"]


class RefusalCase(unittest.TestCase):
    """A test case that asks which refusal a call tells."""

    def refused(self, kind, call, *handed):
        """The call is refused so, and as none of the other kinds."""
        try:
            call(*handed)
        except Exception as error:
            caught = error
        else:
            self.fail(f"{call.__name__} was not refused with {kind}, case {self.shown(handed)}")
        told = [name for name in KINDS if isinstance(caught, getattr(errors, name))]
        self.assertEqual(told, [kind], f"{call.__name__} told {caught!r}, case {self.shown(handed)}")
        self.assertIsInstance(caught, errors.DealError)
        self.assertIsInstance(caught, ValueError)

    def shown(self, handed):
        try:
            return repr(handed)
        except RuntimeError:
            return "with an object that can't be shown"
