"""[38], [39]: the cost of plans, and cheapest ones."""

import unittest
from random import Random
from time import perf_counter

from behindboth.costs import cheapest, cost
from behindboth.errors import Apart, BadBook, BadData, BadPlan, BadRule, Lacking, TooMany, Twice
from behindboth.judge import plan_right
from behindboth.plans import plan_of
from behindboth.running import stages
from behindboth.whole import whole
from helpers import (
    AB_BC_CD, APART, F, ODD, TRIANGLE, TWELVE, Case, meeting, plain_run, random_data, random_plan, random_rule,
)
from searches import all_plans, joined_book, plain_plans, plain_right, right_book, ring_book, turned_plans

ROWS = (((1, 1), (2, 1), (3, 1)), ((1, 5),), ((5, 7), (6, 7)))
YES = (((), True),)


class Examples(Case):

    def test_cost_of_g(self):
        self.assertEqual(cost(AB_BC_CD, ROWS, ((0, 1), 2), ()), 3 + 4)
        self.assertEqual(cost(book=AB_BC_CD, data=ROWS, plan=(0, (1, 2)), rule=()), 2 + 4)

    def test_cheapest_of_g(self):
        self.assertIn(cheapest(AB_BC_CD, ROWS), turned_plans((0, (1, 2))))
        self.assertEqual(cheapest(book=AB_BC_CD, data=ROWS), cheapest(AB_BC_CD, ROWS))

    def test_a_source(self):
        self.assertEqual(cost(((0,),), (((1,), (2,)),), 0, ()), 0)
        self.assertEqual(cheapest(((0,),), (((1,), (2,)),)), 0)
        self.assertEqual(cheapest(((0,),), ((),)), 0)

    def test_a_ring(self):
        self.assertIsNone(cheapest(TRIANGLE, ((), (), ())))
        self.assertIsNone(cheapest(TRIANGLE, (((1, 1),), ((1, 1),), ((1, 1),))))

    def test_plans_that_are_not_right(self):
        # Of 0 and 2 no rows are paired: 3 + 2 stay alone. At the last fork each pair has one of two columns blank.
        self.assertEqual(cost(AB_BC_CD, ROWS, ((0, 2), 1), ()), 5 + 6)
        self.assertEqual(cost(AB_BC_CD, ROWS, ((0, 2), 1), YES), 5 + 5)


class Edges(Case):

    def test_no_rows(self):
        for book in (AB_BC_CD, F, TWELVE[:8]):
            data = ((),) * len(book)
            self.assertEqual(cost(book, data, plan_of(tuple(range(len(book)))), YES), 0)
            self.is_bool(True, plan_right(book, cheapest(book, data)))

    def test_3000_and_3001_lots(self):
        book, data = meeting((40, 25, 3))
        self.assertEqual(cost(book, data, ((0, 1), 2), ()), 1000 + 3000)
        self.assertIn(cheapest(book, data), turned_plans((0, (1, 2))))
        one_more = data[:2] + (data[2] + ((8, 0),),)
        self.refused(TooMany, 3000, cheapest, book, one_more)
        self.refused(TooMany, 3000, cost, book, one_more, ((0, 1), 2), ())
        self.refused(TooMany, 3000, cost, book, one_more, (2, (1, 0)), YES)
        book = TRIANGLE + ((0, 3),)
        many = (((7, 7),), ((7, 7),), ((7, 7),), ((7, 7),))
        self.assertIsNone(cheapest(book, many))

    def test_none_whatever_the_data(self):
        # Of the first three, a ring, these rows have 3200 lots.
        book = TRIANGLE + ((0, 3), (0, 4))
        rows = tuple((7, row) for row in range(40))
        data = (((7, 7), (7, 8)), (), (), rows, rows)
        self.refused(TooMany, 3000, whole, book, data)
        self.assertIsNone(cheapest(book, data))
        self.refused(TooMany, 3000, cost, book, data, plan_of((3, 4, 0, 1, 2)), ())

    def test_eight_sources_and_nine(self):
        began = perf_counter()
        fan = tuple((0, k + 1) for k in range(8))
        for sizes in ((3, 3, 3, 3, 3, 3, 4, 1), (40, 40, 1, 1, 1, 1, 1, 1), (1, 1, 1, 1, 1, 30, 10, 10), (40, 0) * 4):
            data = tuple(tuple((7, row) for row in range(many)) for many in sizes)
            if sizes[1]:
                plan = cheapest(fan, data)
                self.is_bool(True, plan_right(fan, plan))
                self.assertEqual(cheapest(fan, data), plan)
                self.assertLessEqual(cost(fan, data, plan, ()), cost(fan, data, plan_of((0, 2, 4, 6, 1, 3, 5, 7)), ()))
            else:
                self.refused(TooMany, 3000, cheapest, fan, data)
        self.assertLess(perf_counter() - began, 30)
        for book in (fan + ((0, 9),), TWELVE[:9], ring_book(Random(4), 9, 3)):
            self.refused(TooMany, 9, cheapest, book, ((),) * 9)
            self.refused(BadData, -1, cheapest, book, ((),) * 8)
        rows = tuple((7, row) for row in range(40))
        self.refused(TooMany, 9, cheapest, fan + ((0, 9),), (rows,) * 9)
        self.assertEqual(cost(TWELVE, ((),) * 11 + (((1, 2),),), plan_of(tuple(range(12))), ()), 1)


class Searches(Case):

    def test_cost_beside_the_stages(self):
        random = Random(380)
        for _ in range(300):
            book = joined_book(random, 5, random.choice((3, 5, 7)), 4)
            data = random_data(random, book, 4, 2)
            plan = random_plan(random, random.sample(range(len(book)), len(book)))
            rule = random_rule(random, 7, 2)
            told = cost(book, data, plan, rule)
            self.assertEqual(told, sum(len(stage) for stage in plain_run(book, data, plan, rule)[0]))
            self.assertEqual(told, sum(map(len, stages(book, data, plan, rule))))
            self.assertEqual(told, cost(book, data, plan, rule))

    def test_right_plans_have_no_larger_stage_than_the_whole(self):
        random = Random(381)
        for _ in range(60):
            book = right_book(random, random.randint(2, 4))
            data = random_data(random, book, 5, 2)
            many = len(whole(book, data))
            for plan in all_plans(tuple(range(len(book)))):
                if plain_right(book, plan):
                    self.assertTrue(all(len(stage) <= many for stage in stages(book, data, plan, ())))
                    self.assertEqual(cost(book, data, plan, random_rule(random, 8, 2)), cost(book, data, plan, YES))

    def test_cheapest_beside_all_right_plans(self):
        random = Random(390)
        found = []
        for round_number in range(200):
            many = random.randint(3, 5)
            book = (
                joined_book(random, 4, random.choice((3, 5, 7)), 4), right_book(random, many),
                tuple((0, k + 1) for k in range(4)), TWELVE[:many],
            )[round_number % 4]
            data = random_data(random, book, 5, 2)
            costs = [
                sum(len(stage) for stage in plain_run(book, data, plan, ())[0])
                for plan in plain_plans(tuple(range(len(book)))) if plain_right(book, plan)
            ]
            plan = cheapest(book, data)
            self.assertEqual(plan, cheapest(book, data))
            if plan is None:
                self.assertEqual(costs, [])
            else:
                self.assertTrue(plain_right(book, plan))
                self.assertEqual(cost(book, data, plan, ()), min(costs))
            found.append(plan is not None and min(costs) < max(costs))
        self.assertGreater(found.count(True), 40)

    def test_cheapest_of_large_books(self):
        random = Random(391)
        began = perf_counter()
        for round_number in range(40):
            many = random.randint(6, 8)
            if round_number % 4:
                book = right_book(random, many)
                data = random_data(random, book, 3, 2)
                plan = cheapest(book, data)
                self.is_bool(True, plan_right(book, plan))
                for _ in range(30):
                    other = random_plan(random, random.sample(range(many), many))
                    if plain_right(book, other):
                        self.assertLessEqual(cost(book, data, plan, ()), cost(book, data, other, ()))
            else:
                book = ring_book(random, many, 3)
                self.assertIsNone(cheapest(book, random_data(random, book, 3, 2)))
        self.assertLess(perf_counter() - began, 30)


class Refusals(Case):

    def test_order_of_refusals(self):
        self.refused(BadBook, -1, cost, (), None, None, None)
        self.refused(Apart, 2, cost, APART, None, None, None)
        self.refused(BadData, -1, cost, AB_BC_CD, None, None, None)
        self.refused(BadData, (1, 0), cost, AB_BC_CD, ((), ((1,),), ()), None, None)
        self.refused(BadPlan, -1, cost, AB_BC_CD, ROWS, (0, 3), None)
        self.refused(Twice, 1, cost, AB_BC_CD, ROWS, ((0, 1), 1), None)
        self.refused(Lacking, 2, cost, AB_BC_CD, ROWS, (0, 1), None)
        self.refused(Lacking, 1, cost, AB_BC_CD, ROWS, 0, ())
        self.refused(BadRule, -1, cost, AB_BC_CD, ROWS, ((0, 1), 2), None)
        self.refused(BadRule, 1, cost, AB_BC_CD, ROWS, ((0, 1), 2), (((), True), ((), 1)))
        book, data = meeting((40, 40, 40))
        self.refused(BadRule, 0, cost, book, data, ((0, 1), 2), ((),))
        self.refused(TooMany, 3000, cost, book, data, ((0, 1), 2), ())
        self.refused(BadBook, 2, cheapest, ((0,), (0,), ()), None)
        self.refused(Apart, 2, cheapest, APART, None)
        self.refused(BadData, -1, cheapest, TRIANGLE, ((), ()))
        self.refused(BadData, (2, -1), cheapest, TRIANGLE, ((), (), None))

    def test_odd_values(self):
        for thing in ODD:
            self.assertRaises(BadBook, cheapest, thing, thing)
            self.assertRaises(BadData, cheapest, AB_BC_CD, (thing, (), 0))
            if not isinstance(thing, tuple):
                self.refused(BadData, -1, cost, AB_BC_CD, thing, ((0, 1), 2), ())
                self.refused(BadRule, -1, cost, AB_BC_CD, ROWS, ((0, 1), 2), thing)
                if not isinstance(thing, int):
                    self.refused(BadPlan, -1, cost, AB_BC_CD, ROWS, thing, ())


if __name__ == "__main__":
    unittest.main()
