"""[8], [9]: lots, and what lies in what."""

import unittest
from itertools import product
from random import Random

from behindboth.errors import BadTags
from behindboth.lots import is_lot, lies_in
from helpers import AB_BC, AB_BC_CD, ODD, TRIANGLE, Case, nested, plain_is_lot, random_book, random_data

DATA = (((1, 5), (2, 6)), ((5, 7), (5, 8), (9, 9)))


class Lots(Case):

    def test_lots(self):
        for tags in ((0, None), (1, None), (None, 0), (None, 2), (0, 0), (0, 1)):
            self.is_bool(True, is_lot(AB_BC, DATA, tags))
        self.is_bool(True, is_lot(book=((4,),), data=(((0,),),), thing=(0,)))

    def test_rows_that_do_not_agree(self):
        self.is_bool(False, is_lot(AB_BC, DATA, (0, 2)))
        self.is_bool(False, is_lot(AB_BC, DATA, (1, 0)))
        data = (((5, 6),), ((6, 7),), ((8, 7),))
        self.is_bool(True, is_lot(TRIANGLE, data, (0, 0, None)))
        self.is_bool(True, is_lot(TRIANGLE, data, (None, 0, 0)))
        self.is_bool(False, is_lot(TRIANGLE, data, (0, None, 0)))
        self.is_bool(False, is_lot(TRIANGLE, data, (0, 0, 0)))

    def test_sources_that_do_not_hang_together(self):
        self.is_bool(False, is_lot(((0,), (1,)), (((0,),), ((0,),)), (0, 0)))
        chain = ((0, 1), (1, 2), (2, 3))
        data = (((0, 0),),) * 3
        self.is_bool(False, is_lot(chain, data, (0, None, 0)))
        self.is_bool(True, is_lot(chain, data, (0, 0, 0)))

    def test_sources_with_the_same_scheme(self):
        book = ((0, 1), (0, 1))
        data = (((1, 2), (3, 4)), ((3, 4), (1, 5)))
        self.is_bool(True, is_lot(book, data, (1, 0)))
        self.is_bool(False, is_lot(book, data, (0, 1)))

    def test_no_tags(self):
        for tags in ((0,), (0, 0, 0), (None, None), (2, None), (0, 3), (True, None), (False, None), (-1, 0), [0, 0]):
            self.is_bool(False, is_lot(AB_BC, DATA, tags))

    def test_judge_of_odd_values_in_any_place(self):
        for thing in ODD:
            self.is_bool(False, is_lot(AB_BC_CD, DATA + ((),), thing))
            self.is_bool(False, is_lot(AB_BC_CD, thing, (0, None, None)))
            self.is_bool(False, is_lot(thing, DATA, (0, None)))
            self.is_bool(False, is_lot(AB_BC, ((thing, thing), ((5, 7),)), (None, 0)))
            self.is_bool(False, is_lot(AB_BC, (((1, 2), thing, thing), ()), (0, None)))
            self.is_bool(False, is_lot(thing, thing, thing))

    def test_beside_a_plain_search(self):
        random = Random(8)
        for _ in range(60):
            book = random_book(random, 4, 5, 3)
            data = random_data(random, book, 3, 2)
            for tags in product(*[[None] + list(range(len(rows))) for rows in data]):
                self.is_bool(plain_is_lot(book, data, tags), is_lot(book, data, tags))


class Lies(Case):

    def test_lies_in(self):
        self.is_bool(True, lies_in((0, None), (0, 3)))
        self.is_bool(False, lies_in((0, 3), (0, None)))
        self.is_bool(False, lies_in((0, None), (1, 3)))
        self.is_bool(True, lies_in((0, 3), (0, 3)))
        self.is_bool(True, lies_in((None, None), (None, 1)))
        self.is_bool(True, lies_in((), ()))
        self.is_bool(True, lies_in(one=((1, 2), None), two=((1, 2), "a")))
        self.is_bool(False, lies_in(((1, 2), None), ((1, 3), "a")))
        self.is_bool(True, lies_in(("a", nested(49)), ("a", nested(49))))

    def test_unless_both_are_tuples_of_one_length(self):
        for one, two in (((), (0,)), ((0,), ()), (None, ()), ((), None), (0, 0), ("ab", "ab"), ((0, 1), (0,))):
            self.refused(BadTags, 0, lies_in, one, two)


if __name__ == "__main__":
    unittest.main()
