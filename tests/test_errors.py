"""The error classes."""

import unittest

from memoryviews import errors

NAMES = (
    "BadProgram", "BadRule", "BadRun", "BadOutcome", "NotOver", "BadWish", "BadHand", "BadPair", "BadDepth", "BadStand",
    "BadOrder", "BadRoom", "BadScheme", "BadLog", "NoDeed", "NothingDone", "BadPrices", "BadRows", "BadTwins", "BadText",
    "NotPlain", "TooLarge",
)


class TestErrors(unittest.TestCase):

    def test_all_are_there(self):
        self.assertIs(errors.ViewError.__bases__[0], ValueError)
        for name in NAMES:
            self.assertEqual(getattr(errors, name).__bases__, (errors.ViewError,), name)
            self.assertEqual(getattr(errors, name).__module__, "memoryviews.errors")

    def test_index(self):
        self.assertEqual([errors.BadRun(3).index, errors.BadRun(None).index], [3, None])
        self.assertEqual([errors.BadText(0).index, errors.BadText(None).index], [0, None])


if __name__ == "__main__":
    unittest.main()
