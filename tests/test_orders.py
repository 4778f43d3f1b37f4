"""[34] to [36]: orders of sources, groups in which none can go last, and books of which any plan is right."""

import unittest
from itertools import permutations
from random import Random
from time import perf_counter

from behindboth.errors import Apart, BadBook, BadOrder, TooMany
from behindboth.judge import plan_right
from behindboth.kernel import stuck_right
from behindboth.orders import any_plan, made_order, order, order_right, orders_count, stuck
from behindboth.plans import plan_of
from helpers import AB_BC_CD, APART, F, ODD, TRIANGLE, TWELVE, Case
from searches import (
    all_plans, joined_book, plain_can_go_last, plain_good, plain_hangs, plain_has_plan, plain_has_ring, plain_linked,
    plain_orders, plain_right, plain_shared, plain_thirds, right_book, ring_book,
)

ABX = ((0, 1, 2), (0, 1, 3), (0, 4))
FAN = tuple((0, k + 1) for k in range(8))


def plain_order_right(book, told):
    return all(plain_good(book, told[:k], told[k:k + 1]) for k in range(1, len(told)))


def plain_stuck(book, group):
    return len(group) > 1 and plain_hangs(book, group) and not any(
        plain_can_go_last(book, group, source) for source in group)


def books_of_all_sorts(random, many, most):
    for round_number in range(many):
        sources = random.randint(3, most)
        yield (
            joined_book(random, most, random.choice((3, 5, 7)), 4), right_book(random, sources),
            ring_book(random, sources, random.randint(3, sources)),
        )[round_number % 3]


class Examples(Case):

    def test_abx(self):
        self.assertEqual(plain_orders(ABX), [(0, 1, 2), (1, 0, 2)])
        self.assertIn(order(ABX), ((0, 1, 2), (1, 0, 2)))
        for told in permutations(range(3)):
            self.is_bool(told in ((0, 1, 2), (1, 0, 2)), order_right(ABX, told))
        self.assertIsNone(stuck(ABX))
        self.assertEqual(orders_count(ABX), 2)
        self.is_bool(False, any_plan(ABX))

    def test_f(self):
        self.assertIsNone(order(F))
        self.assertEqual(stuck(F), (0, 1, 2, 3))
        self.assertEqual(orders_count(F), 0)
        self.is_bool(False, any_plan(F))
        for told in permutations(range(4)):
            self.is_bool(False, order_right(F, told))

    def test_chain(self):
        right = ((0, 1, 2), (1, 0, 2), (1, 2, 0), (2, 1, 0))
        for told in permutations(range(3)):
            self.is_bool(told in right, order_right(book=AB_BC_CD, order=told))
        self.assertIn(order(book=AB_BC_CD), right)
        self.assertIsNone(stuck(book=AB_BC_CD))
        self.assertEqual(orders_count(book=AB_BC_CD), 4)
        self.is_bool(True, any_plan(book=AB_BC_CD))

    def test_triangle(self):
        self.is_bool(False, any_plan(TRIANGLE))
        self.assertEqual(orders_count(TRIANGLE), 0)
        self.assertIsNone(order(TRIANGLE))
        self.assertEqual(stuck(TRIANGLE), (0, 1, 2))

    def test_one_source(self):
        book = ((3, 7),)
        self.assertEqual(order(book), (0,))
        self.assertIsNone(stuck(book))
        self.is_bool(True, any_plan(book))
        self.assertEqual(orders_count(book), 1)
        self.is_bool(True, order_right(book, (0,)))
        self.assertEqual(made_order(book, (0,)), (0,))


class Edges(Case):

    def test_two_sources(self):
        for book in (((0,), (0,)), ((0, 1), (0,)), ((0, 1, 2), (1, 2, 3))):
            self.assertIn(order(book), ((0, 1), (1, 0)))
            self.assertIsNone(stuck(book))
            self.assertEqual(orders_count(book), 2)
            self.is_bool(True, any_plan(book))
            self.is_bool(True, order_right(book, (1, 0)))

    def test_eight_sources_that_share_a_column_and_nine(self):
        began = perf_counter()
        self.assertEqual(orders_count(FAN), 40320)
        self.is_bool(True, any_plan(FAN))
        self.assertEqual(orders_count(((0, 1),) * 8), 40320)
        self.assertEqual(orders_count(TWELVE[:8]), 128)
        self.assertEqual(orders_count(ring_book(Random(1), 8, 8)), 0)
        self.assertLess(perf_counter() - began, 10)
        nine = FAN + ((0, 9),)
        self.refused(TooMany, 9, orders_count, nine)
        self.refused(TooMany, 9, orders_count, ring_book(Random(1), 9, 5))
        self.refused(TooMany, 12, orders_count, TWELVE)
        self.is_bool(True, any_plan(nine))
        self.assertTrue(plain_order_right(nine, order(nine)))

    def test_twelve_sources(self):
        self.is_bool(True, order_right(TWELVE, tuple(range(12))))
        self.is_bool(False, order_right(TWELVE, (0, 2) + (1,) + tuple(range(3, 12))))
        self.assertTrue(plain_order_right(TWELVE, order(TWELVE)))
        self.assertEqual(sorted(order(TWELVE)), list(range(12)))
        self.is_bool(True, any_plan(TWELVE))
        ring = TWELVE[:11] + ((0, 11),)
        self.assertIsNone(order(ring))
        self.assertEqual(stuck(ring), tuple(range(12)))
        self.is_bool(False, any_plan(ring))
        self.is_bool(False, order_right(TWELVE + ((12, 13),), tuple(range(13))))
        self.refused(BadBook, -1, order, TWELVE + ((12, 13),))

    def test_a_ring_beside_sources_that_can_go_last(self):
        book = TRIANGLE + ((0, 3), (3, 4))
        self.assertIsNone(order(book))
        self.is_bool(True, stuck_right(book, stuck(book)))
        self.assertEqual(stuck(book), (0, 1, 2))

    def test_f_behind_others(self):
        book = F + ((6, 7), (7, 8))
        self.assertIsNone(order(book))
        self.assertEqual(stuck(book), (0, 1, 2, 3))


class Searches(Case):

    def test_small_books_beside_all_orders(self):
        random = Random(350)
        found = []
        for book in books_of_all_sorts(random, 150, 5):
            right = plain_orders(book)
            for told in permutations(range(len(book))):
                self.is_bool(told in right, order_right(book, told))
                self.is_bool(plan_right(book, plan_of(told)), order_right(book, told))
            self.assertEqual(orders_count(book), len(right))
            if right:
                self.assertIn(order(book), right)
                self.assertIsNone(stuck(book))
            else:
                self.assertIsNone(order(book))
                self.assertTrue(plain_stuck(book, stuck(book)))
                self.is_bool(True, stuck_right(book, stuck(book)))
            self.assertEqual((order(book), stuck(book)), (order(book), stuck(book)))
            found.append((plain_has_ring(book), bool(right)))
        self.assertGreater(found.count((False, True)), 20)
        self.assertGreater(found.count((True, False)), 20)
        self.assertEqual(found.count((True, True)), 0)

    def test_books_with_a_right_plan_and_no_right_order(self):
        random = Random(351)
        met = 0
        for _ in range(600):
            book = right_book(random, random.randint(4, 6))
            right = plain_orders(book)
            self.assertEqual(order(book) is None, not right)
            self.assertEqual(orders_count(book), len(right))
            if not right:
                met += 1
                self.assertTrue(plain_has_plan(book, tuple(range(len(book))), {}))
                self.assertTrue(plain_stuck(book, stuck(book)))
        self.assertGreater(met, 10)

    def test_large_books(self):
        random = Random(352)
        began = perf_counter()
        found = []
        for book in books_of_all_sorts(random, 120, 12):
            told, group = order(book), stuck(book)
            found.append(told is None)
            self.assertEqual(told is None, group is not None)
            if told is None:
                self.assertTrue(plain_stuck(book, group))
                self.is_bool(True, stuck_right(book, group))
            else:
                self.assertEqual(sorted(told), list(range(len(book))))
                self.assertTrue(plain_order_right(book, told))
                self.is_bool(True, order_right(book, told))
        self.assertEqual(sorted(set(found)), [False, True])
        self.assertLess(perf_counter() - began, 20)

    def test_thirds_stand_behind_both(self):
        """In books without a ring, of orders in which each source but the first has a neighbour ahead of it."""
        random = Random(353)
        found = []
        for book in books_of_all_sorts(random, 120, 5):
            if plain_has_ring(book):
                continue
            for told in permutations(range(len(book))):
                if all(any(plain_shared(book, s, t) for t in told[:k]) for k, s in enumerate(told) if k):
                    wanted = all(
                        told.index(r) > max(told.index(p), told.index(q)) for p, q, r in plain_thirds(book))
                    self.is_bool(wanted, order_right(book, told))
                    found.append(wanted)
        self.assertGreater(found.count(True), 100)
        self.assertGreater(found.count(False), 100)

    def test_any_plan_beside_all_plans(self):
        random = Random(354)
        found = []
        for book in books_of_all_sorts(random, 200, 4):
            wanted = all(
                plain_right(book, plan) for plan in all_plans(tuple(range(len(book)))) if plain_linked(book, plan))
            self.is_bool(wanted, any_plan(book))
            found.append((wanted, plain_has_ring(book), bool(plain_thirds(book))))
        for sort in ((True, False, False), (False, False, True), (False, True, False), (False, True, True)):
            self.assertGreater(found.count(sort), 5)
        self.assertEqual(len(set(found)), 4)


class Orders(Case):

    def test_made_order(self):
        for told in permutations(range(3)):
            self.assertEqual(made_order(book=TRIANGLE, thing=told), told)

    def test_what_is_none(self):
        for thing in ODD + ((0, 1), (0, 1, 3), (0, 1, 1), (0, 1, 2, 2), (0, 1, 2, 3), (0, True, 2), (False, 1, 2),
                            (0, 1, "2"), (0, 1, -1), ((0, 1), 2), ((0, 1, 2),), (0, None, 2), [0, 1, 2]):
            self.refused(BadOrder, -1, made_order, AB_BC_CD, thing)
            self.is_bool(False, order_right(AB_BC_CD, thing))

    def test_odd_values_in_any_place(self):
        for thing in ODD:
            self.is_bool(False, order_right(thing, (0,)))
            self.is_bool(False, order_right(thing, thing))
            self.is_bool(False, order_right(AB_BC_CD[:2] + (thing,), (0, 1, 2)))
            self.is_bool(False, order_right(AB_BC_CD, (0, 1, thing)))
            self.is_bool(isinstance(thing, int) and repr(thing) == "0", order_right(AB_BC_CD, (thing, 1, 2)))

    def test_books_that_do_not_hang_together(self):
        for told in permutations(range(4)):
            self.is_bool(False, order_right(APART, told))
        self.is_bool(False, order_right(((0,), (1,)), (0, 1)))


class Refusals(Case):

    def test_order_of_refusals(self):
        self.refused(BadBook, -1, made_order, (), None)
        self.refused(Apart, 2, made_order, APART, None)
        self.refused(Apart, 2, made_order, APART, (0, 1, 2, 3))
        for function in (order, stuck, any_plan, orders_count):
            self.refused(BadBook, -1, function, None)
            self.refused(BadBook, 1, function, ((0,), (0, 0)))
            self.refused(Apart, 2, function, APART)
            self.refused(Apart, 1, function, ((0,), (1,)))
            for thing in ODD:
                self.assertRaises(BadBook, function, thing)
        self.refused(Apart, 9, orders_count, FAN + ((0, 9), (23,)))


if __name__ == "__main__":
    unittest.main()
