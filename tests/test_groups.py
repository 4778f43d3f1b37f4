"""[3], [4]: groups, and how they hang together."""

import unittest

from behindboth.errors import BadBook, BadGroup
from behindboth.groups import group_columns, hangs, made_group, pieces
from helpers import APART, ODD, TWELVE, Case


class Groups(Case):

    def test_good_groups(self):
        for group in ((0,), (3,), (0, 3), (0, 1, 2, 3)):
            self.assertEqual(made_group(APART, group), group)
        self.assertEqual(made_group(book=TWELVE, thing=tuple(range(12))), tuple(range(12)))
        self.assertEqual(made_group(TWELVE, (11,)), (11,))

    def test_no_groups(self):
        bad = ODD[:3] + (
            -1, 10 ** 999, "", (), (-1,), (4,), (0, 4), (1, 0), (0, 0), (0, 1, 1), (True,), (0, True), (None,),
            ("0",), ((0,),), (0, 1, 2, 3, 4), 0, tuple(range(100000)), (0,) * 100000,
        )
        for function in (made_group, group_columns, pieces, hangs):
            for thing in bad:
                self.refused(BadGroup, -1, function, APART, thing)
        self.refused(BadGroup, -1, made_group, TWELVE, tuple(range(13)))
        self.refused(BadGroup, -1, made_group, TWELVE, (12,))

    def test_the_book_goes_ahead(self):
        for function in (made_group, group_columns, pieces, hangs):
            self.refused(BadBook, -1, function, (), ())
            self.refused(BadBook, 1, function, ((0,), None), (7,))

    def test_group_columns(self):
        self.assertEqual(group_columns(APART, (0, 3)), (0, 1, 2, 4))
        self.assertEqual(group_columns(APART, (2,)), (3,))
        self.assertEqual(group_columns(book=((5, 9), (0, 9)), group=(0, 1)), (0, 5, 9))

    def test_the_example(self):
        self.assertEqual(pieces(APART, (0, 1, 2, 3)), ((0, 1, 3), (2,)))
        self.assertEqual(pieces(APART, (0, 2, 3)), ((0,), (2,), (3,)))

    def test_pieces(self):
        self.assertEqual(pieces(((0,), (0,)), (0, 1)), ((0, 1),))
        self.assertEqual(pieces(((0,), (1,)), (0, 1)), ((0,), (1,)))
        self.assertEqual(pieces(((0,), (5,), (0, 2), (5, 6), (2, 3)), (0, 1, 2, 3, 4)), ((0, 2, 4), (1, 3)))
        self.assertEqual(pieces(((0,), (1,), (2,), (0, 1, 2)), (0, 1, 2, 3)), ((0, 1, 2, 3),))
        self.assertEqual(pieces(TWELVE, tuple(range(12))), (tuple(range(12)),))
        self.assertEqual(pieces(TWELVE, (0, 1, 3, 4, 5, 11)), ((0, 1), (3, 4, 5), (11,)))

    def test_hangs(self):
        self.is_bool(True, hangs(APART, (0,)))
        self.is_bool(True, hangs(APART, (0, 1, 3)))
        self.is_bool(False, hangs(APART, (0, 3)))
        self.is_bool(False, hangs(APART, (0, 1, 2, 3)))
        self.is_bool(True, hangs(book=TWELVE, group=tuple(range(12))))


if __name__ == "__main__":
    unittest.main()
