"""[30], [31]: the rows of rings, which no plan merges rightly."""

import unittest
from itertools import product
from random import Random
from time import perf_counter

from behindboth.data import made_data
from behindboth.errors import Apart, BadBook, BadPlan, BadRing, Lacking, Twice
from behindboth.pairings import paired
from behindboth.plans import plan_of
from behindboth.ringrows import beats, ring_rows, ring_whole
from behindboth.rings import ring
from behindboth.running import run
from behindboth.whole import is_whole, whole
from helpers import (
    AB_BC_CD, APART, F, ODD, TRIANGLE, TWELVE, Case, in_order, plain_whole, random_pairing, random_plan, random_rule,
)
from searches import all_plans, joined_book, plain_is_ring, plain_leaves, plain_rings, ring_book

R = ((0, 1, 2), (1, 2, 0))
# The last column of this ring, 0, is in each of its sources.
INNER = ((0, 1), (0, 1, 2), (0, 2))
YES = (((), True),)


def turned(told):
    """A ring told the other way round, closed by the same column."""
    sources, xs = told
    return sources[::-1], xs[-2::-1] + xs[-1:]


def plain_ring_rows(book, told):
    """The data that [30] tells, by its words."""
    sources, xs = told
    m = len(sources)
    data = [[] for _ in book]
    for source in sources:
        for i in range(1, m):
            row = {column: 2 * i for column in book[source]}
            if source == sources[i]:
                row[xs[i - 1]] = 2 * i + 1
            data[source].append(tuple(row[column] for column in sorted(row)))
    return tuple(map(tuple, data))


def plain_two_lots(book, told, i):
    sources = told[0]
    lots = [
        tuple(i - 1 if s in sources and s != lacking else None for s in range(len(book)))
        for lacking in (sources[i - 1], sources[i])
    ]
    return tuple(sorted(lots, key=in_order))


def plain_beats(book, told, plan):
    """The least i at which the ring is parted by the last fork that has sources of it on both sides."""
    sources = told[0]
    part = plan
    while True:
        sides = [set(plain_leaves(side)) & set(sources) for side in part]
        if sides[0] and sides[1]:
            break
        part = part[0] if sides[0] else part[1]
    i = min(i for i in range(1, len(sources)) if (sources[i - 1] in sides[0]) != (sources[i] in sides[0]))
    return (i, *plain_two_lots(book, told, i))


def books_with_rings(random, many):
    """Books with a ring of three to five sources, told either way round, others beside them or not."""
    for round_number in range(many):
        length = 3 + round_number % 3
        if round_number % 4 == 3:
            book = joined_book(random, 5, 6, 4)
            rings = list(plain_rings(book))
            if not rings:
                continue
            told = random.choice(rings)
        else:
            book = ring_book(random, length + random.randint(0, 2), length)
            told = ring(book)
        yield book, told
        yield book, turned(told)


class Examples(Case):

    def test_ab_bc_ca(self):
        self.assertEqual(ring_rows(TRIANGLE, R), (((2, 2), (4, 4)), ((3, 2), (4, 4)), ((2, 2), (4, 5))))
        self.assertEqual(ring_whole(TRIANGLE, R), ((None, 0, 0), (0, None, 0), (1, None, 1), (1, 1, None)))
        self.assertEqual(beats(TRIANGLE, R, ((0, 1), 2)), (2, (1, None, 1), (1, 1, None)))
        self.assertEqual(beats(TRIANGLE, R, (0, (1, 2))), (1, (None, 0, 0), (0, None, 0)))

    def test_names(self):
        self.assertEqual(ring_rows(book=TRIANGLE, ring=R), ring_rows(TRIANGLE, R))
        self.assertEqual(ring_whole(book=TRIANGLE, ring=R), ring_whole(TRIANGLE, R))
        self.assertEqual(beats(book=TRIANGLE, ring=R, plan=((0, 2), 1)), (1, (None, 0, 0), (0, None, 0)))


class Edges(Case):

    def test_a_last_column_that_others_of_the_ring_have(self):
        told = ((0, 1, 2), (1, 2, 0))
        self.assertEqual(ring_rows(INNER, told), (((2, 2), (4, 4)), ((2, 3, 2), (4, 4, 4)), ((2, 2), (4, 5))))
        self.assertEqual(ring_whole(INNER, told), ((None, 0, 0), (0, None, 0), (1, None, 1), (1, 1, None)))
        self.assertEqual(ring_whole(INNER, told), plain_whole(INNER, ring_rows(INNER, told)))

    def test_sources_that_are_not_in_the_ring(self):
        book = ((5, 6),) + tuple((k, (k + 1) % 3) if k < 2 else (0, 2, 5) for k in range(3))
        told = ((1, 2, 3), (1, 2, 0))
        self.assertTrue(plain_is_ring(book, *told))
        self.assertEqual(ring_rows(book, told), ((), ((2, 2), (4, 4)), ((3, 2), (4, 4)), ((2, 2, 2), (4, 5, 4))))
        self.assertEqual(beats(book, told, ((1, (0, 2)), 3))[0], 2)
        self.assertEqual(beats(book, told, (((1, 3), 2), 0)), (1, (None, None, 0, 0), (None, 0, None, 0)))

    def test_twelve_sources(self):
        book = TWELVE[:11] + ((0, 11),)
        told = (tuple(range(12)), tuple(range(1, 12)) + (0,))
        began = perf_counter()
        for one in (told, turned(told)):
            data = ring_rows(book, one)
            self.assertEqual(data, plain_ring_rows(book, one))
            self.assertEqual([len(rows) for rows in data], [11] * 12)
            lots = ring_whole(book, one)
            self.assertEqual(len(lots), 22)
            self.assertEqual(lots, whole(book, data))
            random = Random(30)
            for _ in range(20):
                plan = random_plan(random, random.sample(range(12), 12))
                self.assertEqual(beats(book, one, plan), plain_beats(book, one, plan))
                rows = run(book, data, plan, random_rule(random, 12, 24))
                self.assertFalse(set(beats(book, one, plan)[1:]) <= set(rows))
        self.assertEqual(beats(book, told, plan_of(tuple(range(12))))[0], 11)
        self.assertLess(perf_counter() - began, 20)

    def test_one_source_and_two_have_no_ring(self):
        self.refused(BadRing, 0, ring_rows, ((0,),), ((0,), (0,)))
        self.refused(BadRing, 0, ring_whole, ((0,), (0,)), ((0, 1), (0, 0)))
        self.refused(BadRing, 0, beats, ((0,), (0,)), ((0, 1), (0, 0)), (0, 1))


class Searches(Case):

    def test_rows_and_wholes(self):
        random = Random(300)
        lengths = []
        for book, told in books_with_rings(random, 60):
            self.assertTrue(plain_is_ring(book, *told))
            lengths.append(len(told[0]))
            data = ring_rows(book, told)
            self.assertEqual(data, plain_ring_rows(book, told))
            self.assertEqual(made_data(book, data), data)
            lots = ring_whole(book, told)
            self.assertEqual(lots, whole(book, data))
            self.is_bool(True, is_whole(book, data, lots))
            self.assertEqual(len(lots), 2 * (len(told[0]) - 1))
            self.assertEqual(ring_rows(book, told), data)
        self.assertEqual(sorted(set(lengths)), [3, 4, 5])

    def test_wholes_beside_a_plain_own_search(self):
        for book, told in ((TRIANGLE, R), (INNER, R), (TRIANGLE, turned(R)), (TWELVE[:3] + ((0, 3),), None)):
            told = told or ring(book)
            self.assertEqual(ring_whole(book, told), plain_whole(book, ring_rows(book, told)))

    def look_at(self, random, book, told, plan):
        data = ring_rows(book, told)
        i, one, two = beats(book, told, plan)
        self.assertEqual((i, one, two), plain_beats(book, told, plan))
        self.assertLess(in_order(one), in_order(two))
        self.assertTrue({one, two} <= set(ring_whole(book, told)))
        for rule in ((), YES, random_rule(random, 8, 12)):
            self.assertFalse({one, two} <= set(run(book, data, plan, rule)))
        for _ in range(3):
            pairing, _ = random_pairing(random, book, data, plan)
            self.assertFalse({one, two} <= set(paired(book, data, plan, pairing)))

    def test_no_plan_has_both_lots(self):
        random = Random(301)
        for book, told in books_with_rings(random, 40):
            plans = all_plans(tuple(range(len(book)))) if len(book) < 5 else [
                random_plan(random, random.sample(range(len(book)), len(book))) for _ in range(12)]
            for plan in random.sample(plans, min(24, len(plans))):
                self.look_at(random, book, told, plan)

    def test_all_pairings_of_a_plan(self):
        """Each pairing of the first fork, and of the last one each that puts no row to more than two."""
        data = ring_rows(TRIANGLE, R)
        for plan in (((0, 1), 2), (1, (2, 0))):
            _, one, two = beats(TRIANGLE, R, plan)
            seen = []
            for first in subsets([(i, j) for i in range(2) for j in range(2)], 4):
                within = plan[0] if isinstance(plan[0], tuple) else plan[1]
                many = len(paired(TRIANGLE, data, within, (first,)))
                sizes = (many, 2) if within == plan[0] else (2, many)
                for last in subsets(sorted(product(range(sizes[0]), range(sizes[1]))), 4):
                    rows = paired(TRIANGLE, data, plan, (first, last))
                    self.assertFalse(one in rows and two in rows)
                    seen.extend(lot for lot in (one, two) if lot in rows)
            self.assertEqual(set(seen), {one, two})


def subsets(things, most):
    """All rising tuples of some of the things, at most so many."""
    found = [()]
    for thing in things:
        found += [some + (thing,) for some in found if len(some) < most]
    return found


class Refusals(Case):

    def test_order_of_refusals(self):
        for function in (ring_rows, ring_whole):
            self.refused(BadBook, -1, function, (), None)
            self.refused(BadBook, 1, function, ((0,), (1, 0)), R)
            self.refused(Apart, 2, function, APART, None)
            self.refused(Apart, 3, function, TRIANGLE + ((9,),), R)
            self.refused(BadRing, 0, function, TRIANGLE, None)
            self.refused(BadRing, 0, function, F, R)
        self.refused(BadBook, -1, beats, None, None, None)
        self.refused(Apart, 3, beats, TRIANGLE + ((9,),), R, None)
        self.refused(BadRing, 0, beats, AB_BC_CD, R, None)
        self.refused(BadRing, 0, beats, TRIANGLE, (R[0], (1, 2)), ((0, 0), 1))
        self.refused(BadPlan, -1, beats, TRIANGLE, R, ((0, 0), 3))
        self.refused(BadPlan, -1, beats, TRIANGLE, R, None)
        self.refused(Twice, 0, beats, TRIANGLE, R, ((0, 0), 1))
        self.refused(Lacking, 0, beats, TRIANGLE, R, (1, 2))

    def test_odd_values(self):
        for thing in ODD:
            self.refused(BadRing, 0, ring_rows, TRIANGLE, thing)
            self.refused(BadRing, 0, ring_whole, TRIANGLE, (R[0], thing))
            self.refused(BadRing, 0, beats, TRIANGLE, (thing, R[1]), ((0, 1), 2))
            if not isinstance(thing, (int, tuple)):
                self.refused(BadPlan, -1, beats, TRIANGLE, R, thing)
        self.refused(BadRing, 0, ring_rows, TRIANGLE, (R[0], (True, 2, 0)))


if __name__ == "__main__":
    unittest.main()
