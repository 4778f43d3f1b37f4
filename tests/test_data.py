"""[5], [6], [7]: data, tags, and what tags show."""

import unittest

from behindboth.data import have, made_data, made_tags, quarrel, shown
from behindboth.errors import BadBook, BadData, BadTags
from helpers import AB_BC, AB_BC_CD, ODD, Case

DATA = (((1, 5), (2, 6)), ((5, 7), (5, 8), (9, 9)))
FORTY = tuple((k,) for k in range(40))


class Data(Case):

    def test_good_data(self):
        good = (
            (((0,),), ((),)), (((0,),), (((0,), (999999,)),)), (((0,),), (FORTY,)), (AB_BC, DATA), (AB_BC, ((), ())),
            (((0, 1), (0, 1)), (((1, 2),), ((1, 2),))), (((0,),), (((3,), (1,), (2,)),)),
        )
        for book, data in good:
            self.assertEqual(made_data(book, data), data)
        self.assertEqual(made_data(book=AB_BC, thing=DATA), DATA)

    def test_no_tuple_with_as_many_entries(self):
        for thing in (None, True, 0, "ab", (), ((),), ((), (), ()), ((),) * 100000):
            self.refused(BadData, -1, made_data, AB_BC, thing)

    def test_entries_that_are_no_tuples_or_too_long(self):
        for rows in (None, True, 0, "", "ab", FORTY + ((40,),), ((0,),) * 41, (None,) * 99999):
            self.refused(BadData, (0, -1), made_data, ((0,), (0,)), (rows, ()))
            self.refused(BadData, (1, -1), made_data, ((0,), (0,)), (((5,),), rows))

    def test_the_first_that_is_no_row(self):
        bad = (None, 1, True, "12", (), (1,), (1, 2, 3), (1, -1), (1, 1000000), (True, 1), (1, False), (None, 1),
               ("1", 2), ((1,), 2), (1,) * 99999, (1, 10 ** 999))
        for row in bad:
            self.refused(BadData, (0, 0), made_data, AB_BC, ((row,), ()))
            self.refused(BadData, (1, 1), made_data, AB_BC, (DATA[0], ((5, 7), row, None)))
            self.refused(BadData, (1, 39), made_data, AB_BC, ((), tuple((k, 0) for k in range(39)) + (row,)))

    def test_a_row_like_one_ahead(self):
        self.refused(BadData, (0, 2), made_data, AB_BC, (((1, 2), (2, 1), (1, 2), (2, 1)), None))
        self.refused(BadData, (1, 1), made_data, AB_BC, (((1, 2),), ((1, 2), (1, 2))))
        self.refused(BadData, (0, 1), made_data, AB_BC, (((1, 2), (1, 2), None), 7))

    def test_the_first_source_goes_ahead(self):
        self.refused(BadData, (0, 1), made_data, AB_BC, (((1, 2), ()), None))
        self.refused(BadData, (0, -1), made_data, AB_BC, (None, ((),)))
        self.refused(BadBook, 0, made_data, ((),), None)
        for thing in ODD:
            with self.assertRaises(BadData):
                made_data(AB_BC_CD, thing)
            with self.assertRaises(BadData):
                made_data(AB_BC_CD, ((), ((1, 2), thing, thing), ()))


class Tags(Case):

    def test_good_tags(self):
        for tags in ((0, 0), (1, 2), (None, 2), (1, None)):
            self.assertEqual(made_tags(AB_BC, DATA, tags), tags)
        self.assertEqual(made_tags(book=((0,),), data=(FORTY,), thing=(39,)), (39,))

    def test_no_tags(self):
        bad = (None, 0, True, "00", (), (0,), (0, 0, 0), (None, None), (True, 0), (0, False), (-1, 0), (0, -1),
               (0, "0"), ((0,), 0), (0,) * 100000, (None, True))
        for thing in bad:
            self.refused(BadTags, -1, made_tags, AB_BC, DATA, thing)
        for thing in ODD:
            with self.assertRaises(BadTags):
                made_tags(AB_BC_CD, ((), (), ()), thing)

    def test_the_first_source_without_such_a_row(self):
        self.refused(BadTags, 0, made_tags, AB_BC, DATA, (2, 0))
        self.refused(BadTags, 0, made_tags, AB_BC, DATA, (10 ** 999, 3))
        self.refused(BadTags, 1, made_tags, AB_BC, DATA, (1, 3))
        self.refused(BadTags, 1, made_tags, AB_BC, (DATA[0], ()), (None, 0))
        self.refused(BadTags, 0, made_tags, ((0,),), (FORTY,), (40,))

    def test_order_of_refusals(self):
        for function in (made_tags, shown):
            self.refused(BadBook, -1, function, (), (), ())
            self.refused(BadData, -1, function, AB_BC, (), ())
            self.refused(BadData, (1, -1), function, AB_BC, ((), None), None)
            self.refused(BadTags, -1, function, AB_BC, DATA, (None, None))
            self.refused(BadTags, 1, function, AB_BC, DATA, (0, 3))
        self.refused(BadBook, -1, quarrel, (), (), (), ())
        self.refused(BadData, -1, quarrel, AB_BC, (), (), ())
        self.refused(BadTags, 1, quarrel, AB_BC, DATA, (0, 3), (None, None))
        self.refused(BadTags, -1, quarrel, AB_BC, DATA, (0, 2), (None, None))
        self.refused(BadTags, 0, quarrel, AB_BC, DATA, (0, 2), (2, None))

    def test_have(self):
        self.assertEqual(have((None, 2, None, 0)), (1, 3))
        self.assertEqual(have((0,)), (0,))
        self.assertEqual(have(tags=(5,) * 12), tuple(range(12)))

    def test_shown(self):
        self.assertEqual(shown(AB_BC, DATA, (None, 2)), (None, 9, 9))
        self.assertEqual(shown(AB_BC, DATA, (0, 0)), (1, 5, 7))
        self.assertEqual(shown(AB_BC, DATA, (0, 1)), (1, 5, 8))
        self.assertEqual(shown(AB_BC, DATA, (1, None)), (2, 6, None))

    def test_shown_is_of_the_least_source(self):
        self.assertEqual(shown(AB_BC, DATA, (1, 2)), (2, 6, 9))
        book = ((3,), (0, 3), (0, 23))
        self.assertEqual(shown(book, (((1,),), ((2, 3),), ((4, 5),)), (None, 0, 0)), (2, 3, 5))
        self.assertEqual(shown(book=book, data=(((0,),), ((2, 3),), ((4, 5),)), tags=(0, None, 0)), (4, 0, 5))

    def test_quarrel(self):
        self.is_bool(False, quarrel(AB_BC, DATA, (0, None), (None, 0)))
        self.is_bool(True, quarrel(AB_BC, DATA, (0, None), (None, 2)))
        self.is_bool(True, quarrel(AB_BC, DATA, (0, 0), (0, 1)))
        self.is_bool(False, quarrel(AB_BC, DATA, (1, None), (1, None)))
        self.is_bool(False, quarrel(((0,), (1,)), (((0,),), ((1,),)), (0, None), (None, 0)))
        self.is_bool(True, quarrel(book=AB_BC, data=DATA, one=(0, None), two=(1, None)))

    def test_quarrel_is_of_what_is_shown(self):
        # The row (9, 9) of source 1 is behind (1, 5) in column 1, so the 9 there is not shown.
        self.is_bool(False, quarrel(AB_BC, DATA, (0, 2), (0, None)))


if __name__ == "__main__":
    unittest.main()
