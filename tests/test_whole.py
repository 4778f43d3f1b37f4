"""[10]: the whole."""

import unittest
from random import Random
from time import perf_counter

from behindboth.data import shown
from behindboth.errors import BadBook, BadData, TooMany
from behindboth.whole import is_whole, whole
from helpers import (
    AB_BC, AB_BC_CD, ODD, TRIANGLE, TWELVE, Case, meeting, plain_whole, random_book, random_data,
)

DATA = (((1, 5), (2, 6)), ((5, 7), (5, 8), (9, 9)))
WHOLE = ((None, 2), (0, 0), (0, 1), (1, None))


class Whole(Case):

    def test_the_example(self):
        self.assertEqual(whole(AB_BC, DATA), WHOLE)
        rows = [shown(AB_BC, DATA, tags) for tags in WHOLE]
        self.assertEqual(rows, [(None, 9, 9), (1, 5, 7), (1, 5, 8), (2, 6, None)])
        self.assertEqual(whole(book=AB_BC, data=DATA), WHOLE)

    def test_the_example_of_a_ring(self):
        self.assertEqual(whole(TRIANGLE, (((5, 6),), ((6, 7),), ((8, 7),))), ((None, 0, 0), (0, 0, None)))
        data = (((2, 2), (4, 4)), ((3, 2), (4, 4)), ((2, 2), (4, 5)))
        self.assertEqual(whole(TRIANGLE, data), ((None, 0, 0), (0, None, 0), (1, None, 1), (1, 1, None)))

    def test_no_rows(self):
        self.assertEqual(whole(AB_BC, ((), ())), ())
        self.assertEqual(whole(((0,),) * 12, ((),) * 12), ())
        self.is_bool(True, is_whole(AB_BC, ((), ()), ()))

    def test_one_source(self):
        self.assertEqual(whole(((0,),), (tuple((k,) for k in range(40)),)), tuple((k,) for k in range(40)))

    def test_sources_with_the_same_scheme(self):
        self.assertEqual(whole(((0,), (0,)), (((1,), (2,)), ((2,), (3,)))), ((None, 1), (0, None), (1, 0)))

    def test_a_book_that_does_not_hang_together(self):
        book = ((0,), (1,), (0, 2))
        data = (((5,),), ((5,), (6,)), ((5, 0), (6, 0)))
        self.assertEqual(whole(book, data), ((None, None, 1), (None, 0, None), (None, 1, None), (0, None, 0)))

    def test_rows_that_hang_together_by_a_third_one(self):
        data = (((5, 1),), ((1, 2),), ((2, 7), (3, 7)))
        self.assertEqual(whole(AB_BC_CD, data), ((None, None, 1), (0, 0, 0)))
        data = (data[0], (), data[2])
        self.assertEqual(whole(AB_BC_CD, data), ((None, None, 0), (None, None, 1), (0, None, None)))

    def test_beside_a_plain_search(self):
        random = Random(10)
        for _ in range(300):
            book = random_book(random, 5, random.choice((3, 5, 8)), 3)
            data = random_data(random, book, 3, random.choice((2, 3)))
            wanted = plain_whole(book, data)
            self.assertEqual(whole(book, data), wanted)
            self.is_bool(True, is_whole(book, data, wanted))

    def test_rings_beside_a_plain_search(self):
        random = Random(11)
        rings = (TRIANGLE, ((0, 1), (1, 2), (2, 3), (0, 3)), ((0, 1, 4), (1, 2, 4), (2, 3, 4), (0, 3, 4), (4, 5)))
        for round_number in range(150):
            book = rings[round_number % 3]
            data = random_data(random, book, 3, 2)
            self.assertEqual(whole(book, data), plain_whole(book, data))

    def test_order_of_refusals(self):
        self.refused(BadBook, -1, whole, (), ())
        self.refused(BadBook, 1, whole, ((0,), ()), None)
        self.refused(BadData, -1, whole, AB_BC, ())
        self.refused(BadData, (1, 1), whole, AB_BC, (((0, 0),), ((0, 0), (0, 0))))


class Many(Case):

    def test_3000_and_3001(self):
        book, data = meeting((40, 25, 3))
        lots = whole(book, data)
        self.assertEqual(len(lots), 3000)
        self.assertEqual(lots[:2] + lots[-1:], ((0, 0, 0), (0, 0, 1), (39, 24, 2)))
        self.is_bool(True, is_whole(book, data, lots))
        one_more = book + ((9,),)
        lone = data + (((0,),),)
        self.refused(TooMany, 3000, whole, one_more, lone)
        every = tuple(lot + (None,) for lot in lots)
        self.is_bool(False, is_whole(one_more, lone, ((None, None, None, 0),) + every))
        self.is_bool(False, is_whole(one_more, lone, every))

    def test_3000_and_3001_found_one_by_one(self):
        # For each power of two that 3000 is made of, so many sources have two rows with a worth of its own.
        book = tuple((0, k + 1) for k in range(12))
        data = [()] * 12
        for worth, power in enumerate((11, 9, 8, 7, 5, 4, 3)):
            for source in range(power):
                data[source] += ((worth, 0), (worth, 1))
        self.assertEqual(len(whole(book, tuple(data))), 3000)
        data[11] += ((99, 0),)
        self.refused(TooMany, 3000, whole, book, tuple(data))

    def test_far_too_many(self):
        began = perf_counter()
        for book, data in (
            meeting((40,) * 12),
            (TWELVE, tuple(tuple((k % 2, k // 2) for k in range(40)) for _ in range(12))),
            (tuple(tuple(sorted((k, (k + 1) % 12))) for k in range(12)), (((0, 0), (0, 1), (1, 0), (1, 1)),) * 12),
        ):
            self.refused(TooMany, 3000, whole, book, data)
            self.is_bool(False, is_whole(book, data, ()))
            self.is_bool(False, is_whole(book, data, ((0,) * 12,)))
        self.assertLess(perf_counter() - began, 20)

    def test_many_rows_of_few_lots(self):
        book = tuple((k,) for k in range(12))
        data = (tuple((w,) for w in range(40)),) * 12
        self.assertEqual(len(whole(book, data)), 480)
        data = (tuple((w, w) for w in range(40)),) * 12
        self.assertEqual(whole(TWELVE, data), tuple((w,) * 12 for w in range(40)))


class Judge(Case):

    def test_what_is_not_the_whole(self):
        wrong = (
            (), WHOLE[1:], WHOLE[:3], WHOLE[::-1], WHOLE + WHOLE[3:], WHOLE + ((None, 0),), None, WHOLE[0],
            ((None, 2), (0, 0), (0, True), (1, None)), ((None, 2), (False, 0), (0, 1), (1, None)),
            ((None, 2), (0, 0), (0, 1), (True, None)), ((None, 2), (0, 0), (0, 1), (1, False)),
            ((None, 2), (0, 0), (0, 1), (1,)), ((None, 2), (0, 0), (0, 1), None), WHOLE[:3] + ((1, "a"),),
        )
        for thing in wrong:
            self.is_bool(False, is_whole(AB_BC, DATA, thing))
        self.is_bool(True, is_whole(book=AB_BC, data=DATA, thing=WHOLE))

    def test_odd_values_in_any_place(self):
        for thing in ODD:
            self.is_bool(False, is_whole(AB_BC, DATA, thing))
            self.is_bool(False, is_whole(AB_BC, DATA, (thing,) + WHOLE))
            self.is_bool(False, is_whole(AB_BC, DATA, ((thing, thing),)))
            self.is_bool(False, is_whole(AB_BC_CD, thing, ()))
            self.is_bool(False, is_whole(AB_BC, (DATA[0], (thing, thing)), WHOLE))
            self.is_bool(False, is_whole(thing, DATA, WHOLE))
            self.is_bool(False, is_whole(thing, thing, thing))


if __name__ == "__main__":
    unittest.main()
