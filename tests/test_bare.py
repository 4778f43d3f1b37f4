"""[43], [44], [45]: bare rows, covered sources, twins."""

import unittest
from random import Random

from behindboth.bare import bare, coverer, fillers, told_back, twins
from behindboth.data import made_data, shown
from behindboth.errors import BadBook, BadData, BadRows, BadSource, Covered, TooMany
from behindboth.kernel import coverer_right
from behindboth.whole import whole
from helpers import (
    AB_BC, AB_BC_CD, APART, F, ODD, TRIANGLE, TWELVE, Case, in_order, meeting, plain_shown, plain_whole, random_book,
    random_data,
)
from searches import plain_hangs

B = (((5, 1),), ((1, 2),), ((2, 7), (3, 7)))


def plain_bare(book, data):
    columns = sorted({c for scheme in book for c in scheme})
    rows = []
    for lot in plain_whole(book, data):
        worths = plain_shown(book, data, lot)
        rows.append(tuple(worths.get(c) for c in columns))
    return tuple(sorted(rows, key=in_order))


def coverers(book, source):
    """All groups without a source that hang together and have all its columns."""
    for number in range(1, 1 << len(book)):
        group = tuple(s for s in range(len(book)) if number >> s & 1)
        has = {c for s in group for c in book[s]}
        if source not in group and set(book[source]) <= has and plain_hangs(book, group):
            yield group


def random_shown(random, book):
    many = len({c for scheme in book for c in scheme})
    rows = []
    for _ in range(random.randint(0, 8)):
        row = tuple(random.choice((None, 0, 1, 999999)) for _ in range(many))
        if row != (None,) * many:
            rows.append(row)
    return tuple(rows)


class Examples(Case):

    def test_bare(self):
        self.assertEqual(bare(AB_BC, (((9, 5), (1, 6)), ())), ((1, 6, None), (9, 5, None)))
        self.assertEqual(bare(book=AB_BC_CD, data=B), ((None, None, 3, 7), (5, 1, 2, 7)))

    def test_told_back_and_fillers(self):
        rows = bare(AB_BC_CD, B)
        self.assertEqual([coverer(AB_BC_CD, source) for source in range(3)], [None] * 3)
        self.assertEqual(told_back(AB_BC_CD, rows, 2), ((2, 7), (3, 7)))
        self.assertEqual(told_back(book=AB_BC_CD, rows=rows, source=0), ((5, 1),))
        self.assertEqual(fillers(AB_BC_CD, (None, None, 3, 7)), (2,))
        self.assertEqual(fillers(book=AB_BC_CD, shown=(None, 1, None, 7)), ())

    def test_covered(self):
        for source in range(3):
            others = tuple(s for s in range(3) if s != source)
            self.assertEqual(coverer(TRIANGLE, source), others)
        self.assertEqual(coverer(((0,), (0, 1)), 0), (1,))
        self.assertIsNone(coverer(book=((0,), (0, 1)), source=1))

    def test_twins(self):
        book = ((0,), (0, 1))
        pair = twins(book, 0)
        self.assertIn(pair[0][0], ((), ((0,),)))
        self.assertEqual(len({pair[0][0], pair[1][0]}), 2)
        self.assertEqual(bare(book, pair[0]), bare(book, pair[1]))
        self.assertEqual(twins(book=book, source=0), pair)
        self.assertIsNone(twins(book, 1))


class Searches(Case):

    def test_bare_is_what_the_whole_shows(self):
        random = Random(43)
        for _ in range(200):
            book = random_book(random, 5, random.choice((3, 5, 8)), 3)
            data = random_data(random, book, 3, 3)
            rows = bare(book, data)
            self.assertEqual(rows, plain_bare(book, data))
            self.assertEqual(rows, tuple(sorted([shown(book, data, lot) for lot in whole(book, data)], key=in_order)))
            self.assertEqual(len(set(rows)), len(rows))

    def test_what_is_told_back(self):
        random = Random(44)
        found = {True: 0, False: 0}
        for round_number in range(300):
            book = random_book(random, 5, random.choice((4, 6, 9)), 3)
            data = random_data(random, book, 4, 3)
            rows = bare(book, data)
            free = [source for source in range(len(book)) if not list(coverers(book, source))]
            for source in range(len(book)):
                found[source in free] += 1
                if source in free:
                    self.assertEqual(told_back(book, rows, source), tuple(sorted(data[source])))
                else:
                    self.refused(Covered, source, told_back, book, rows, source)
            if len(free) == len(book):
                for lot in whole(book, data):
                    there = tuple(s for s, tag in enumerate(lot) if tag is not None)
                    self.assertEqual(fillers(book, shown(book, data, lot)), there)
        self.assertGreater(min(found.values()), 100)

    def test_any_shown_rows(self):
        random = Random(45)
        for _ in range(200):
            book = random_book(random, 5, 7, 3)
            columns = sorted({c for scheme in book for c in scheme})
            rows = random_shown(random, book)
            for row in rows:
                there = {c for c, worth in zip(columns, row) if worth is not None}
                self.assertEqual(fillers(book, row), tuple(s for s in range(len(book)) if set(book[s]) <= there))
            for source in range(len(book)):
                if coverer(book, source) is None:
                    told = [tuple(row[columns.index(c)] for c in book[source]) for row in rows]
                    wanted = tuple(sorted({row for row in told if None not in row}))
                    self.assertEqual(told_back(book, rows + rows[::-1], source), wanted)

    def test_coverers_beside_a_search_over_all_groups(self):
        random = Random(46)
        for _ in range(200):
            book = random_book(random, 6, random.choice((4, 7, 10)), 3)
            for source in range(len(book)):
                group = coverer(book, source)
                self.assertEqual(group is None, not list(coverers(book, source)))
                if group is not None:
                    self.is_bool(True, coverer_right(book, source, group))
                    self.assertIn(group, list(coverers(book, source)))
                    self.assertEqual(coverer(book, source), group)

    def test_twins(self):
        random = Random(47)
        for _ in range(200):
            book = random_book(random, 6, random.choice((4, 7, 10)), 3)
            for source in range(len(book)):
                pair = twins(book, source)
                group = coverer(book, source)
                if group is None:
                    self.assertIsNone(pair)
                    continue
                self.assertIsInstance(pair, tuple)
                one, two = pair
                for data in pair:
                    self.assertEqual(made_data(book, data), data)
                    self.assertEqual([s for s in range(len(book)) if data[s] and s not in group + (source,)], [])
                self.assertEqual(bare(book, one), bare(book, two))
                self.assertEqual(plain_bare(book, one), plain_bare(book, two))
                self.assertNotEqual(set(one[source]), set(two[source]))
                self.assertEqual(twins(book, source), pair)


class Edges(Case):

    def test_one_source_and_twelve(self):
        self.assertIsNone(coverer(((0,),), 0))
        self.assertIsNone(twins(((0,),), 0))
        self.assertEqual(told_back(((0, 2),), ((3, 4), (None, 5), (3, 4), (1, 9)), 0), ((1, 9), (3, 4)))
        self.assertIsNone(coverer(TWELVE, 5))
        self.assertEqual(fillers(TWELVE, (0,) * 13), tuple(range(12)))
        self.assertEqual(fillers(TWELVE, (0,) * 6 + (None,) * 7), (0, 1, 2, 3, 4))
        self.is_bool(True, coverer_right(((0,),) * 12, 11, coverer(((0,),) * 12, 11)))

    def test_books_that_do_not_hang_together(self):
        # The sources 1 and 2 have all columns of source 0, but do not hang together.
        self.assertIsNone(coverer(((0, 1), (0,), (1,)), 0))
        self.assertIn(0, coverer(((0, 1), (0,), (1,)), 1))
        self.is_bool(True, coverer_right(((0, 1), (0,), (5,)), 1, coverer(((0, 1), (0,), (5,)), 1)))
        self.assertEqual(coverer(((0, 1), (0,), (5,)), 1), (0,))
        self.assertIsNone(coverer(APART, 2))
        self.assertEqual(bare(((0,), (1,)), (((3,),), ((2,),))), ((None, 2), (3, None)))

    def test_no_rows(self):
        self.assertEqual(bare(AB_BC, ((), ())), ())
        self.assertEqual(told_back(AB_BC, (), 1), ())

    def test_worths(self):
        self.assertEqual(told_back(AB_BC, ((0, 999999, None),), 0), ((0, 999999),))
        self.refused(BadRows, 1, told_back, AB_BC, ((0, 1, None), (0, 1000000, None)), 0)
        self.refused(BadRows, -1, fillers, AB_BC, (0, 1000000, None))
        self.refused(BadRows, -1, fillers, AB_BC, (None, None, None))
        self.refused(BadRows, -1, fillers, AB_BC, (0, False, 1))
        self.refused(BadRows, -1, fillers, AB_BC, (-1, 0, 1))

    def test_3000_and_3001_lots(self):
        book, data = meeting((40, 25, 3))
        self.assertEqual(len(bare(book, data)), 3000)
        self.refused(TooMany, 3000, bare, book, data[:2] + (data[2] + ((8, 0),),))


class Refusals(Case):

    def test_order_of_refusals(self):
        self.refused(BadBook, -1, bare, (), None)
        self.refused(BadData, -1, bare, AB_BC, None)
        self.refused(BadData, (1, 0), bare, AB_BC, ((), (None,)))
        for function in (coverer, twins):
            self.refused(BadBook, -1, function, (), None)
            for thing in (-1, 3, True, None, "0", (0,)):
                self.refused(BadSource, thing, function, TRIANGLE, thing)
        self.refused(BadBook, 0, told_back, ((),), None, None)
        self.refused(BadRows, -1, told_back, TRIANGLE, None, None)
        self.refused(BadRows, 0, told_back, TRIANGLE, (None, None), None)
        self.refused(BadRows, 1, told_back, TRIANGLE, ((0, 0, 0), (0, 0)), None)
        self.refused(BadSource, 3, told_back, TRIANGLE, (), 3)
        self.refused(Covered, 1, told_back, TRIANGLE, (), 1)
        self.refused(BadBook, -1, fillers, (), None)
        self.refused(BadRows, -1, fillers, TRIANGLE, None)

    def test_odd_values(self):
        for thing in ODD:
            self.assertRaises(BadBook, bare, thing, ())
            self.assertRaises(BadBook, coverer, thing, 0)
            self.assertRaises(BadBook, twins, thing, 0)
            self.assertRaises(BadBook, told_back, thing, (), 0)
            self.assertRaises(BadBook, fillers, thing, ())
            self.refused(BadRows, -1, fillers, F, thing)
            self.refused(BadRows, 0, told_back, F, (thing, thing), 0)
            if not isinstance(thing, tuple):
                self.refused(BadRows, -1, told_back, F, thing, 0)
            if thing is True or thing is False or not isinstance(thing, int):
                self.refused(BadSource, thing, coverer, F, thing)
                self.refused(BadSource, thing, twins, F, thing)
                self.refused(BadSource, thing, told_back, F, (), thing)


if __name__ == "__main__":
    unittest.main()
