"""[32], [33]: thirds, and plans in which each of them comes in behind both."""

import unittest
from random import Random
from time import perf_counter

from behindboth.errors import Apart, BadBook, BadPlan, Lacking, Twice
from behindboth.judge import plan_right
from behindboth.plans import plan_of
from behindboth.thirds import shows, thirds
from helpers import APART, F, ODD, TRIANGLE, TWELVE, Case, forked, random_plan
from searches import (
    all_plans, joined_book, linked_plan, plain_has_ring, plain_linked, plain_right, plain_rings, plain_shows, plain_thirds,
    right_book, ring_book,
)

ABX = ((0, 1, 2), (0, 1, 3), (0, 4))


class Examples(Case):

    def test_thirds(self):
        self.assertEqual(thirds(ABX), ((0, 1, 2),))
        self.assertEqual(thirds(F), ((0, 1, 2), (0, 1, 3), (2, 3, 0), (2, 3, 1)))
        self.assertEqual(thirds(book=TRIANGLE), ())

    def test_shows(self):
        self.is_bool(True, shows(F, ((0, 1), (2, 3))))
        self.is_bool(False, shows(F, (((0, 1), 2), 3)))
        self.is_bool(True, shows(book=ABX, plan=((1, 0), 2)))
        self.is_bool(True, shows(ABX, (2, (1, 0))))
        self.is_bool(False, shows(ABX, ((0, 2), 1)))
        self.is_bool(False, shows(ABX, (1, (2, 0))))


class Edges(Case):

    def test_one_source_and_two(self):
        self.assertEqual(thirds(((0, 1),)), ())
        self.is_bool(True, shows(((0, 1),), 0))
        self.assertEqual(thirds(((0, 1), (0, 1))), ())
        self.is_bool(True, shows(((0,), (0, 1)), (1, 0)))

    def test_same_schemes_and_one_within_another(self):
        self.assertEqual(thirds(((0, 1),) * 4), ())
        self.assertEqual(thirds(((0, 1), (0, 1), (0,))), ((0, 1, 2),))
        self.assertEqual(thirds(((0,), (0, 1), (0, 1))), ((1, 2, 0),))
        self.assertEqual(thirds(((0, 1), (0,), (0, 1), (1,))), ((0, 2, 1), (0, 2, 3)))

    def test_r_may_stand_at_any_place(self):
        self.assertEqual(thirds(((0, 1, 2), (0, 4), (0, 1, 3))), ((0, 2, 1),))
        self.is_bool(False, shows(((0, 1, 2), (0, 4), (0, 1, 3)), ((0, 1), 2)))
        self.is_bool(True, shows(((0, 1, 2), (0, 4), (0, 1, 3)), (1, (0, 2))))

    def test_twelve_sources(self):
        self.assertEqual(thirds(TWELVE), ())
        self.is_bool(True, shows(TWELVE, plan_of(tuple(range(12)))))
        book = tuple((0, k + 4) for k in range(10)) + ((0, 1, 2, 3),) * 2
        self.assertEqual(thirds(book), tuple((10, 11, r) for r in range(10)))
        self.is_bool(False, shows(book, plan_of(tuple(range(12)))))
        self.is_bool(True, shows(book, plan_of((11, 10) + tuple(range(10)))))
        self.refused(BadBook, -1, thirds, book + ((0,),))
        self.refused(BadBook, -1, shows, book + ((0,),), plan_of(tuple(range(12))))


class Searches(Case):

    def test_all_triples(self):
        random = Random(320)
        many = 0
        for round_number in range(400):
            sources = random.choice((3, 5, 8, 12))
            book = joined_book(random, sources, random.choice((3, 6, 9)), 5) if round_number % 4 else right_book(
                random, sources)
            self.assertEqual(thirds(book), plain_thirds(book))
            self.assertEqual(thirds(book), thirds(book))
            many += len(thirds(book))
        self.assertGreater(many, 1000)

    def test_all_plans_of_small_books(self):
        random = Random(330)
        found = []
        for round_number in range(100):
            book = (
                joined_book(random, 4, random.choice((3, 5, 7)), 4), right_book(random, 4),
                ring_book(random, 4, random.choice((3, 4))),
            )[round_number % 3]
            ring = plain_has_ring(book)
            # No ring the last column of which, too, is in no third one of its sources.
            pure = any(
                not any(xs[-1] in book[s] for s in sources[1:-1]) for sources, xs in plain_rings(book))
            for plan in all_plans(tuple(range(len(book)))):
                told = shows(book, plan)
                self.is_bool(plain_shows(book, plan), told)
                if plain_linked(book, plan):
                    found.append((ring, pure, told))
                    if not pure:
                        self.assertEqual(plain_right(book, plan), told)
                        self.is_bool(told, plan_right(book, plan))
        for ring, pure, told in (
            (False, False, True), (False, False, False), (True, False, False), (True, True, True), (True, True, False),
        ):
            self.assertGreater(found.count((ring, pure, told)), 20)

    def test_plans_of_large_books_without_a_ring(self):
        random = Random(331)
        found = []
        began = perf_counter()
        for _ in range(300):
            many = random.randint(5, 12)
            book = right_book(random, many)
            plan = random_plan(random, random.sample(range(many), many))
            self.is_bool(plain_shows(book, plan), shows(book, plan))
            plan = linked_plan(random, book)
            self.is_bool(plain_shows(book, plan), shows(book, plan))
            self.is_bool(plain_right(book, plan), shows(book, plan))
            found.append(shows(book, plan))
        self.assertGreater(found.count(True), 20)
        self.assertGreater(found.count(False), 20)
        self.assertLess(perf_counter() - began, 20)

    def test_a_wrong_plan_of_a_ring_may_show_all_thirds(self):
        for plan in all_plans((0, 1, 2)):
            self.is_bool(True, shows(TRIANGLE, plan))
            self.is_bool(False, plan_right(TRIANGLE, plan))
        book = ring_book(Random(332), 5, 5)
        self.is_bool(True, shows(book, plan_of((0, 1, 2, 3, 4))))


class Refusals(Case):

    def test_order_of_refusals(self):
        self.refused(BadBook, -1, thirds, None)
        self.refused(BadBook, 1, thirds, ((0,), ()))
        self.refused(Apart, 2, thirds, APART)
        self.refused(BadBook, -1, shows, (), None)
        self.refused(Apart, 2, shows, APART, None)
        self.refused(Apart, 1, shows, ((0,), (1,)), (0, 0))
        self.refused(BadPlan, -1, shows, F, None)
        self.refused(BadPlan, -1, shows, F, ((0, 0), 4))
        self.refused(BadPlan, -1, shows, F, forked(12))
        self.refused(Twice, 0, shows, F, ((0, 0), 1))
        self.refused(Lacking, 2, shows, F, ((0, 1), 3))

    def test_odd_values(self):
        for thing in ODD:
            self.assertRaises(BadBook, thirds, thing)
            self.assertRaises(BadBook, shows, thing, 0)
            if not isinstance(thing, (int, tuple)):
                self.refused(BadPlan, -1, shows, F, thing)
        self.refused(BadPlan, -1, shows, F, ((0, True), (2, 3)))


if __name__ == "__main__":
    unittest.main()
