"""[0.2]: the error classes."""

import unittest

from behindboth import errors

NAMES = """BadBook BadSource BadGroup BadData BadTags TooMany BadPlan Twice Lacking BadRule BadPairing Apart
BadPaper BadRing BadOrder BadNumber NotRight BadColumn BadLots BadRows Covered BadRow HasRow Full NoRow
NothingToUndo NothingToRedo BadFork BadQuestion BadText NoName BadHouse""".split()


class Errors(unittest.TestCase):

    def test_refused_stands_under_value_error(self):
        self.assertEqual(errors.Refused.__bases__, (ValueError,))

    def test_all_stand_under_refused_and_under_no_other(self):
        self.assertEqual(len(NAMES), 32)
        for name in NAMES:
            self.assertEqual(getattr(errors, name).__bases__, (errors.Refused,), name)

    def test_all_names_are_classes_of_their_own(self):
        classes = [getattr(errors, name) for name in NAMES]
        self.assertEqual(len(set(classes)), len(NAMES))
        self.assertEqual([made.__name__ for made in classes], NAMES)

    def test_what_is_kept(self):
        for name in NAMES + ["Refused"]:
            made = getattr(errors, name)
            for what in (-1, (0, -1), None, "a", True, ()):
                self.assertIs(made(what).what, what)
                self.assertIs(made(what=what).what, what)

    def test_one_argument(self):
        for name in NAMES + ["Refused"]:
            made = getattr(errors, name)
            self.assertRaises(TypeError, made)
            self.assertRaises(TypeError, made, 1, 2)

    def test_raised_and_caught(self):
        for name in NAMES:
            try:
                raise getattr(errors, name)((1, 2))
            except errors.Refused as error:
                self.assertEqual(error.what, (1, 2))


if __name__ == "__main__":
    unittest.main()
