"""[21]: sides of a fork."""

import unittest
from random import Random

from behindboth.errors import BadBook, BadGroup
from behindboth.forks import across, good, meet
from helpers import AB_BC_CD, F, TRIANGLE, Case, random_book

AZ = ((0, 1, 2), (0, 1, 3), (0, 4))


class Sides(Case):

    def test_across(self):
        self.assertEqual(across(F, (0, 1), (2, 3)), ((0, 2), (0, 3), (1, 2), (1, 3)))
        self.assertEqual(across(AB_BC_CD, (0, 2), (1,)), ((0, 1), (2, 1)))
        self.assertEqual(across(AB_BC_CD, (0,), (2,)), ())
        self.assertEqual(across(book=AB_BC_CD, left=(1, 2), right=(0,)), ((1, 0),))
        self.assertEqual(across(((0,), (0,)), (1,), (0,)), ((1, 0),))

    def test_meet(self):
        self.assertEqual(meet(F, (0, 1), (2, 3)), (0,))
        self.assertEqual(meet(AZ, (0, 2), (1,)), (0, 1))
        self.assertEqual(meet(AB_BC_CD, (0,), (2,)), ())
        self.assertEqual(meet(book=AB_BC_CD, left=(0, 2), right=(1,)), (1, 2))

    def test_good(self):
        self.is_bool(True, good(F, (0, 1), (2, 3)))
        self.is_bool(False, good(F, (0, 1, 2), (3,)))
        self.is_bool(True, good(AZ, (0,), (1,)))
        self.is_bool(True, good(AZ, (0, 1), (2,)))
        self.is_bool(False, good(AZ, (0, 2), (1,)))
        self.is_bool(False, good(TRIANGLE, (0, 1), (2,)))
        self.is_bool(True, good(book=((0, 1), (0, 1)), left=(0,), right=(1,)))

    def test_no_neighbours_across(self):
        self.is_bool(False, good(AB_BC_CD, (0,), (2,)))
        self.is_bool(False, good(((0,), (1,)), (0,), (1,)))

    def test_sides_need_not_hang_together(self):
        self.is_bool(False, good(AB_BC_CD, (0, 2), (1,)))
        self.is_bool(True, good(((0, 1), (2,), (0, 3)), (0, 1), (2,)))

    def test_wrong_groups(self):
        bad = (None, 0, True, "", (), (3,), (-1,), (0, 0), (1, 0), (True,), ("0",), (0, 1, 2, 3), (0,) * 99999)
        for function in (across, meet, good):
            for thing in bad:
                self.refused(BadGroup, -1, function, TRIANGLE, thing, (0,))
                self.refused(BadGroup, -1, function, TRIANGLE, (0,), thing)

    def test_a_source_in_common(self):
        for function in (across, meet, good):
            self.refused(BadGroup, 1, function, TRIANGLE, (0,), (0,))
            self.refused(BadGroup, 1, function, TRIANGLE, (0, 1), (1, 2))
            self.refused(BadGroup, -1, function, TRIANGLE, (0, 1), (1, 0))
            self.refused(BadGroup, -1, function, TRIANGLE, (0, 1, 1), (1,))
            self.refused(BadBook, -1, function, (), (0,), (0,))

    def test_beside_a_plain_look(self):
        random = Random(23)
        for _ in range(300):
            book = random_book(random, 6, 6, 4)
            sides = [random.randrange(3) for _ in book]
            left, right = (tuple(s for s in range(len(book)) if sides[s] == side) for side in (0, 1))
            if not left or not right:
                continue
            columns = [set().union(*[set(book[s]) for s in side]) for side in (left, right)]
            z = tuple(sorted(columns[0] & columns[1]))
            pairs = tuple((i, j) for i in left for j in right if set(book[i]) & set(book[j]))
            self.assertEqual(across(book, left, right), pairs)
            self.assertEqual(meet(book, left, right), z)
            wanted = bool(pairs) and all(set(book[i]) & set(book[j]) == set(z) for i, j in pairs)
            self.is_bool(wanted, good(book, left, right))
            if wanted:
                self.assertTrue(all(set(z) <= set(book[s]) or not set(z) & set(book[s]) for s in left + right))


if __name__ == "__main__":
    unittest.main()
