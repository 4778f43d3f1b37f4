"""[17], [18], [20]: plans run with any pairing."""

import unittest
from random import Random
from time import perf_counter

from behindboth.errors import BadBook, BadData, BadPairing, BadPlan, TooMany, Twice
from behindboth.pairings import paired
from behindboth.plans import plan_of
from helpers import (
    AB_BC, TRIANGLE, Case, in_order, meeting, random_book, random_data, random_pairing, random_part,
)

DATA = (((1, 5), (2, 6)), ((5, 7), (5, 8), (9, 9)))
THREE = (((5, 6),), ((6, 7),), ((8, 7),))


class Pairings(Case):

    def test_the_example_of_18(self):
        self.assertEqual(paired(TRIANGLE, THREE, ((0, 1), 2), (((0, 0),), ((0, 0),))), ((0, 0, 0),))
        self.assertEqual(paired(TRIANGLE, THREE, ((0, 1), 2), (((0, 0),), ())), ((None, None, 0), (0, 0, None)))

    def test_any_rows_may_be_paired(self):
        self.assertEqual(paired(AB_BC, DATA, (0, 1), (((1, 0), (1, 2)),)), ((None, 1), (0, None), (1, 0), (1, 2)))
        self.assertEqual(paired(AB_BC, DATA, (0, 1), ((),)), tuple(sorted(
            ((0, None), (1, None), (None, 0), (None, 1), (None, 2)), key=in_order)))
        self.assertEqual(paired(((0,), (1,)), (((3,),), ((4,),)), (1, 0), (((0, 0),),)), ((0, 0),))

    def test_a_source(self):
        self.assertEqual(paired(AB_BC, DATA, 0, ()), ((0, None), (1, None)))
        self.assertEqual(paired(book=AB_BC, data=DATA, plan=1, pairing=()), ((None, 0), (None, 1), (None, 2)))
        self.refused(BadPairing, -1, paired, AB_BC, DATA, 0, ((),))

    def test_indices_are_of_results_in_order(self):
        # The result of fork 0 is ((None, 0, None), (0, None, None), (1, None, None)).
        told = paired(TRIANGLE, (((5, 6), (5, 5)), ((1, 7),), ((8, 7),)), ((0, 1), 2), ((), ((0, 0), (2, 0))))
        self.assertEqual(told, ((None, 0, 0), (0, None, None), (1, None, 0)))
        told = paired(TRIANGLE, (((5, 6), (5, 5)), ((1, 7),), ((8, 7),)), (2, (1, 0)), ((), ((0, 0), (0, 2))))
        self.assertEqual(told, ((None, 0, 0), (0, None, None), (1, None, 0)))

    def test_beside_a_plain_runner(self):
        random = Random(22)
        for _ in range(300):
            book = random_book(random, 5, 6, 3)
            data = random_data(random, book, 3, 3)
            plan = random_part(random, book)
            pairing, result = random_pairing(random, book, data, plan)
            self.assertEqual(paired(book, data, plan, pairing), result)

    def test_no_tuple_with_as_many_entries_as_forks(self):
        for thing in (None, True, 0, "ab", (), ((),), ((), (), ()), ((),) * 99999):
            self.refused(BadPairing, -1, paired, TRIANGLE, THREE, ((0, 1), 2), thing)

    def test_the_first_entry_that_is_wrong(self):
        bad = (
            None, True, 0, "", "ab", (None,), (0,), ((),), ((0,),), ((0, 0, 0),), ((0, 0), (0, 0)), ((1, 0), (0, 0)),
            ((0, 1), (0, 0)), ((2, 0),), ((0, 2),), ((-1, 0),), ((0, -1),), ((True, 0),), ((0, False),), ((0, None),),
            (("0", 0),), ((0, 0), None), ((0, 0), (1, 10 ** 999)), ((0, 0),) * 49999, (((0,), 0),), "ab" * 4000,
        )
        data = (((5, 6), (5, 5)), ((6, 7), (1, 1)), ((8, 7), (2, 2)))
        for entry in bad:
            self.refused(BadPairing, 0, paired, TRIANGLE, data, ((0, 1), 2), (entry, None))
            self.refused(BadPairing, 1, paired, TRIANGLE, data, ((0, 1), 2), (((0, 0), (1, 1)), entry))
            self.refused(BadPairing, 1, paired, TRIANGLE, data, (2, (0, 1)), (((0, 0), (1, 1)), entry))

    def test_indices_one_beyond(self):
        self.refused(BadPairing, 0, paired, AB_BC, DATA, (0, 1), (((2, 0),),))
        self.refused(BadPairing, 0, paired, AB_BC, DATA, (0, 1), (((1, 3),),))
        self.refused(BadPairing, 0, paired, AB_BC, DATA, (1, 0), (((2, 2),),))
        self.assertEqual(paired(AB_BC, DATA, (1, 0), (((2, 1),),))[-1], (1, 2))
        self.refused(BadPairing, 1, paired, TRIANGLE, THREE, ((0, 1), 2), (((0, 0),), ((1, 0),)))

    def test_order_of_refusals(self):
        self.refused(BadBook, -1, paired, (), None, None, None)
        self.refused(BadData, -1, paired, AB_BC, None, None, None)
        self.refused(BadPlan, -1, paired, AB_BC, DATA, (0, 2), None)
        self.refused(Twice, 1, paired, AB_BC, DATA, (1, 1), None)
        self.refused(BadPairing, -1, paired, AB_BC, DATA, (0, 1), None)


class Many(Case):

    def test_3000_rows_and_more(self):
        book, data = meeting((40, 40, 2))
        every = tuple((i, j) for i in range(40) for j in range(40))
        first = every[:1499]
        # 1499 pairs of rows 0 to 37, and of row 37 some; the rows 38 and 39 are in none.
        left = 1499 + 2
        second = tuple((i, j) for i in range(left) for j in range(2))[:2998]
        told = paired(book, data, ((0, 1), 2), (first, second))
        self.assertEqual(len(told), 2998 + 2)
        self.refused(TooMany, 3000, paired, book, data, ((0, 1), 2), (first, second + ((1499, 0),) + ((1499, 1),)))

    def test_fork_by_fork(self):
        book, data = meeting((40, 40, 2, 1))
        every = tuple((i, j) for i in range(40) for j in range(40))
        twice = tuple((i, j) for i in range(1600) for j in range(2))
        plan = (((0, 1), 2), 3)
        self.refused(TooMany, 3000, paired, book, data, plan, (every, twice, ()))
        self.refused(TooMany, 3000, paired, book, data, plan, (every, twice, None))
        self.refused(TooMany, 3000, paired, book, data, plan, (every, twice, ((-1, 0),)))
        self.refused(BadPairing, 1, paired, book, data, plan, (every, twice + ((0, 0),), ()))
        self.refused(BadPairing, 0, paired, book, data, plan, (None, twice, ()))
        self.refused(BadPairing, -1, paired, book, data, plan, (every, twice))

    def test_quickly(self):
        book = tuple((k,) for k in range(12))
        data = (tuple((w,) for w in range(25)),) * 12
        pairing = (tuple((i, i) for i in range(5)),) * 11
        began = perf_counter()
        for _ in range(10):
            self.assertEqual(len(paired(book, data, plan_of(tuple(range(12))), pairing)), 245)
        self.assertLess(perf_counter() - began, 10)


if __name__ == "__main__":
    unittest.main()
