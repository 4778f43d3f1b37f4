"""[1], [2]: books, and the columns that sources share."""

import unittest

from behindboth.books import columns, is_book, made_book, neighbours, shared
from behindboth.errors import BadBook, BadSource
from helpers import AB_BC_CD, APART, ODD, TRIANGLE, TWELVE, Case

GOOD = (
    ((0,),), ((23,),), ((0, 23),), (tuple(range(8)),), (tuple(range(16, 24)),), ((0,),) * 12, TWELVE,
    ((0, 1), (0, 1)), ((0, 1, 2), (1,)), ((0,), (1,), (2,)), TRIANGLE, APART,
)


class Books(Case):

    def test_good_books_are_returned(self):
        for book in GOOD:
            self.assertEqual(made_book(book), book)
            self.is_bool(True, is_book(book))
        self.assertEqual(made_book(thing=((0,),)), ((0,),))

    def test_what_is_no_tuple_of_1_to_12(self):
        for thing in (None, True, 0, "ab", (), ((0,),) * 13, ("x",) * 13, ((0,),) * 50000):
            self.refused(BadBook, -1, made_book, thing)
            self.is_bool(False, is_book(thing))

    def test_the_first_that_is_no_scheme(self):
        bad = (
            (), None, 0, True, "01", (24,), (-1,), (0, 24), (True,), (False, 1), (0, True), (None,), ("0",),
            (0, 0), (1, 0), (0, 2, 1), tuple(range(9)), tuple(range(24)), ((0,),), (0, (1,)), (0,) * 100000,
        )
        for scheme in bad:
            self.refused(BadBook, 0, made_book, (scheme,))
            self.refused(BadBook, 2, made_book, ((0,), (1,), scheme, (), (0,)))
            self.refused(BadBook, 11, made_book, ((0,),) * 11 + (scheme,))
            self.is_bool(False, is_book(((0,), scheme)))

    def test_judge_of_odd_values(self):
        for thing in ODD:
            self.is_bool(False, is_book(thing))
            self.is_bool(False, is_book((thing, (0,), thing)))

    def test_columns(self):
        self.assertEqual(columns(((3, 5), (0, 5), (23,))), (0, 3, 5, 23))
        self.assertEqual(columns(book=((7,), (7,))), (7,))
        self.assertEqual(columns(TWELVE), tuple(range(13)))
        self.refused(BadBook, -1, columns, ())
        self.refused(BadBook, 1, columns, ((0,), (True,)))

    def test_shared(self):
        book = ((0, 1, 5), (1, 5, 7), (2,), (0, 1, 5))
        self.assertEqual(shared(book, 0, 1), (1, 5))
        self.assertEqual(shared(book, 1, 0), (1, 5))
        self.assertEqual(shared(book, 0, 2), ())
        self.assertEqual(shared(book, 0, 0), (0, 1, 5))
        self.assertEqual(shared(book=book, i=3, j=0), (0, 1, 5))

    def test_neighbours(self):
        self.is_bool(True, neighbours(AB_BC_CD, 0, 1))
        self.is_bool(False, neighbours(AB_BC_CD, 0, 2))
        self.is_bool(False, neighbours(AB_BC_CD, 1, 1))
        self.is_bool(True, neighbours(((4, 5), (4, 5)), 0, 1))
        self.is_bool(True, neighbours(((4, 5), (5,)), i=1, j=0))

    def test_sources_are_checked_from_the_left(self):
        for function in (shared, neighbours):
            for thing in (-1, 2, 10 ** 900, None, True, False, "0", (), (0,)):
                self.refused(BadSource, thing, function, ((0,), (0,)), thing, 0)
                self.refused(BadSource, thing, function, ((0,), (0,)), 1, thing)
                self.refused(BadSource, thing, function, ((0,), (0,)), thing, "later")
                self.refused(BadBook, -1, function, (), thing, 0)
            self.refused(BadBook, 0, function, ((),), -1, -2)


if __name__ == "__main__":
    unittest.main()
