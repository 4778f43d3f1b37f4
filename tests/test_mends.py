"""[40]: columns to be called otherwise, sources to be left aside."""

import unittest
from random import Random

from behindboth.errors import Apart, BadBook, BadColumn, BadSource, TooMany
from behindboth.mends import aside, mends, renamed
from helpers import AB_BC, APART, F, ODD, TRIANGLE, TWELVE, Case
from searches import joined_book, plain_has_plan, plain_hangs, right_book, ring_book

ALL_24 = (tuple(range(8)), tuple(range(7, 15)), tuple(range(14, 22)), (21, 22, 23))
ALL_23 = ALL_24[:3] + ((21, 22),)


def plain_renamed(book, source, column):
    fresh = min(set(range(24)) - {c for scheme in book for c in scheme})
    scheme = sorted(set(book[source]) - {column} | {fresh})
    return tuple(tuple(scheme) if s == source else book[s] for s in range(len(book)))


def plain_mended(book):
    every = tuple(range(len(book)))
    return len(book) > 0 and plain_hangs(book, every) and plain_has_plan(book, every, {})


def plain_mends(book):
    return tuple((s, c) for s in range(len(book)) for c in book[s] if plain_mended(plain_renamed(book, s, c)))


def plain_aside(book):
    return tuple(s for s in range(len(book)) if plain_mended(book[:s] + book[s + 1:]))


class Examples(Case):

    def test_the_triangle(self):
        self.assertEqual(renamed(TRIANGLE, 0, 0), ((1, 3), (1, 2), (0, 2)))
        self.assertEqual(mends(TRIANGLE), ((0, 0), (0, 1), (1, 1), (1, 2), (2, 0), (2, 2)))
        self.assertEqual(aside(TRIANGLE), (0, 1, 2))
        self.assertEqual(renamed(book=TRIANGLE, source=2, column=2), ((0, 1), (1, 2), (0, 3)))
        self.assertEqual(mends(book=TRIANGLE), mends(TRIANGLE))
        self.assertEqual(aside(book=TRIANGLE), aside(TRIANGLE))

    def test_a_book_with_a_right_plan(self):
        self.assertEqual(mends(AB_BC), ((0, 0), (1, 2)))
        self.assertEqual(renamed(AB_BC, 0, 1), ((0, 3), (1, 2)))
        self.assertEqual(aside(AB_BC), (0, 1))

    def test_one_source(self):
        self.assertEqual(aside(((0,),)), ())
        self.assertEqual(mends(((0, 5),)), ((0, 0), (0, 5)))
        self.assertEqual(renamed(((0, 5),), 0, 0), ((1, 5),))
        self.assertEqual(renamed(((0, 5),), 0, 5), ((0, 1),))


class Edges(Case):

    def test_the_least_column_that_no_source_has(self):
        self.assertEqual(renamed(((0, 1, 3), (3, 23)), 1, 23), ((0, 1, 3), (2, 3)))
        self.assertEqual(renamed(((1, 3), (3, 23)), 0, 3), ((0, 1), (3, 23)))
        self.assertEqual(renamed(((1, 3), (3, 23)), 1, 3), ((1, 3), (0, 23)))

    def test_23_columns_and_24(self):
        self.assertEqual(renamed(ALL_23, 3, 22), ALL_23[:3] + ((21, 23),))
        self.assertEqual(mends(ALL_23), plain_mends(ALL_23))
        self.refused(TooMany, 24, renamed, ALL_24, 0, 0)
        self.refused(TooMany, 24, mends, ALL_24)
        self.assertEqual(aside(ALL_24), (0, 3))

    def test_twelve_sources(self):
        self.assertEqual(mends(TWELVE), ((0, 0), (11, 12)))
        self.assertEqual(aside(TWELVE), (0, 11))
        for book in (TWELVE, ring_book(Random(3), 12, 5), tuple((0, k + 1) for k in range(12))):
            self.assertEqual(mends(book), plain_mends(book))
            self.assertEqual(aside(book), plain_aside(book))

    def test_what_does_not_hang_together_is_returned(self):
        self.assertEqual(renamed(TWELVE, 5, 5), TWELVE[:5] + ((6, 13),) + TWELVE[6:])


class Searches(Case):

    def test_beside_a_plain_search(self):
        random = Random(40)
        found = {True: 0, False: 0}
        for round_number in range(240):
            book = (
                joined_book(random, 5, random.choice((3, 5, 7)), 4), right_book(random, random.randint(1, 6)),
                ring_book(random, random.randint(3, 6), 3),
            )[round_number % 3]
            if len({c for scheme in book for c in scheme}) == 24:
                continue
            for source in range(len(book)):
                for column in book[source]:
                    self.assertEqual(renamed(book, source, column), plain_renamed(book, source, column))
            self.assertEqual(mends(book), plain_mends(book))
            self.assertEqual(aside(book), plain_aside(book))
            found[len(mends(book)) > 0] += 1
        self.assertGreater(min(found.values()), 10)


class Refusals(Case):

    def test_order_of_refusals(self):
        self.refused(BadBook, -1, renamed, (), None, None)
        self.refused(BadBook, 1, renamed, ((0,), ()), None, None)
        self.refused(Apart, 2, renamed, APART, None, None)
        self.refused(BadSource, None, renamed, ALL_24, None, None)
        self.refused(BadSource, 4, renamed, ALL_24, 4, 0)
        self.refused(BadSource, -1, renamed, ALL_24, -1, 0)
        self.refused(BadColumn, None, renamed, ALL_24, 0, None)
        self.refused(BadColumn, 8, renamed, ALL_24, 0, 8)
        self.refused(BadColumn, 24, renamed, TRIANGLE, 0, 24)
        self.refused(BadColumn, 3, renamed, TRIANGLE, 0, 3)
        for function in (mends, aside):
            self.refused(BadBook, -1, function, None)
            self.refused(BadBook, 0, function, ((24,),))
            self.refused(Apart, 2, function, APART)

    def test_odd_values(self):
        for thing in ODD:
            for function in (mends, aside):
                self.assertRaises(BadBook, function, thing)
            self.assertRaises(BadBook, renamed, thing, thing, thing)
            if thing is True or thing is False or not isinstance(thing, int):
                self.refused(BadSource, thing, renamed, F, thing, thing)
                self.refused(BadColumn, thing, renamed, F, 0, thing)


if __name__ == "__main__":
    unittest.main()
