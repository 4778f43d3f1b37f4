"""[26]: splits."""

import unittest
from random import Random
from time import perf_counter

from behindboth.errors import Apart, BadBook, BadGroup
from behindboth.splits import splits
from helpers import AB_BC_CD, APART, F, ODD, TRIANGLE, TWELVE, Case
from searches import joined_book, plain_hangs, plain_splits, right_book, ring_book


class Examples(Case):

    def test_f(self):
        self.assertEqual(splits(F, (0, 1, 2, 3)), (((0, 1), (2, 3)),))

    def test_one_scheme_within_another(self):
        self.assertEqual(splits(((0,), (0, 1)), (0, 1)), (((0,), (1,)),))

    def test_chain(self):
        self.assertEqual(splits(AB_BC_CD, (0, 1, 2)), (((0,), (1, 2)), ((0, 1), (2,))))
        self.assertEqual(splits(book=AB_BC_CD, group=(1, 2)), (((1,), (2,)),))


class Edges(Case):

    def test_one_source(self):
        self.assertEqual(splits(((0,),), (0,)), ())
        self.assertEqual(splits(AB_BC_CD, (2,)), ())

    def test_rings(self):
        self.assertEqual(splits(TRIANGLE, (0, 1, 2)), ())
        self.assertEqual(splits(TRIANGLE, (0, 2)), (((0,), (2,)),))

    def test_same_schemes(self):
        book = ((0, 1),) * 3
        self.assertEqual(splits(book, (0, 1, 2)), (((0,), (1, 2)), ((0, 1), (2,)), ((0, 2), (1,))))

    def test_a_source_with_no_further_column_is_a_piece(self):
        book = ((0,), (0, 1), (0, 2), (1, 3))
        self.assertEqual(splits(book, (0, 1, 2, 3)), plain_splits(book, (0, 1, 2, 3)))
        self.assertIn(((0,), (1, 2, 3)), splits(book, (0, 1, 2, 3)))

    def test_twelve_sources_that_share_one_column(self):
        began = perf_counter()
        book = tuple((0, k + 1) for k in range(12))
        found = splits(book, tuple(range(12)))
        self.assertEqual(len(found), 2 ** 11 - 1)
        self.assertEqual(found[0], ((0,), tuple(range(1, 12))))
        self.assertEqual(found[-1], ((0, 11), tuple(range(1, 11))))
        self.assertEqual(list(found), sorted(set(found)))
        self.assertEqual(len(splits(TWELVE, tuple(range(12)))), 11)
        self.assertEqual(splits(TWELVE[:11] + ((0, 11),), tuple(range(12))), ())
        self.assertLess(perf_counter() - began, 10)


class Searches(Case):

    def test_all_groups_of_books_of_all_sorts(self):
        random = Random(26)
        many = 0
        for round_number in range(150):
            if round_number % 3 == 0:
                book = right_book(random, random.randint(2, 6))
            elif round_number % 3 == 1:
                book = joined_book(random, 6, random.choice((3, 6, 8)), 4)
            else:
                book = ring_book(random, 5, random.randint(3, 5))
            for bits in range(1, 1 << len(book)):
                group = tuple(s for s in range(len(book)) if bits >> s & 1)
                if plain_hangs(book, group):
                    wanted = plain_splits(book, group)
                    self.assertEqual(splits(book, group), wanted)
                    many += len(wanted)
                else:
                    self.assertRaises(Apart, splits, book, group)
        self.assertGreater(many, 1000)

    def test_books_of_twelve(self):
        random = Random(27)
        for _ in range(5):
            book = right_book(random, 12)
            found = splits(book, tuple(range(12)))
            self.assertEqual(found, plain_splits(book, tuple(range(12))))
            self.assertEqual(found, splits(book, tuple(range(12))))


class Refusals(Case):

    def test_order_of_refusals(self):
        self.refused(BadBook, -1, splits, None, None)
        self.refused(BadBook, 2, splits, ((0,), (0,), (1, 0)), None)
        self.refused(Apart, 2, splits, APART, None)
        self.refused(Apart, 2, splits, APART, (0,))
        self.refused(BadGroup, -1, splits, AB_BC_CD, ())
        self.refused(BadGroup, -1, splits, AB_BC_CD, (0, 3))
        self.refused(BadGroup, -1, splits, AB_BC_CD, (2, 0))
        self.refused(Apart, 2, splits, AB_BC_CD, (0, 2))
        self.refused(Apart, 3, splits, AB_BC_CD + ((3, 4), (4, 5)), (0, 1, 3, 4))
        self.refused(Apart, 4, splits, AB_BC_CD + ((3, 4), (4, 5), (0, 5)), (1, 2, 4, 5))

    def test_odd_groups(self):
        for thing in ODD:
            self.refused(BadGroup, -1, splits, AB_BC_CD, thing)


if __name__ == "__main__":
    unittest.main()
