"""[22], [23], [25]: right plans, and why a plan is right or wrong."""

import unittest
from random import Random
from time import perf_counter

from behindboth.errors import Apart, BadBook, BadPlan, Lacking, Twice
from behindboth.judge import judged, plan_right
from behindboth.kernel import right_right, wrong_right
from behindboth.plans import plan_of
from behindboth.running import run
from behindboth.whole import whole
from helpers import AB_BC_CD, APART, F, ODD, TRIANGLE, TWELVE, Case, forked, random_data, random_plan, random_rule
from searches import (
    all_plans, joined_book, plain_forks, plain_good, plain_meet, plain_right, plain_wrong, right_book, ring_book,
)

ABX = ((0, 1, 2), (0, 1, 3), (0, 4))
ELEVEN_DEEP = plan_of(tuple(range(12)))


class Examples(Case):

    def test_ab_bc_cd(self):
        self.assertEqual(judged(AB_BC_CD, ((0, 1), 2)), ("right", ((1,), (2,))))
        self.assertIn(judged(AB_BC_CD, ((0, 2), 1)), (("apart", 1, (0, 1, 2)), ("apart", 1, (2, 1, 0))))
        self.is_bool(True, plan_right(AB_BC_CD, ((0, 1), 2)))
        self.is_bool(False, plan_right(AB_BC_CD, ((0, 2), 1)))

    def test_abx_aby_az(self):
        self.is_bool(False, plan_right(ABX, ((0, 2), 1)))
        told = judged(ABX, ((0, 2), 1))
        self.assertEqual(told[:2], ("unlike", 1))
        self.is_bool(True, plain_wrong(ABX, ((0, 2), 1), told))
        self.assertEqual(judged(ABX, ((1, 0), 2)), ("right", ((0, 1), (0,))))

    def test_f(self):
        for plan in (((0, 1), (2, 3)), ((2, 3), (0, 1)), ((1, 0), (3, 2))):
            self.assertEqual(judged(F, plan), ("right", ((0, 4) if 3 in plan[0] else (0, 1),
                                                        (0, 1) if 3 in plan[0] else (0, 4), (0,))))
        for order in ((0, 1, 2, 3), (2, 3, 0, 1), (3, 0, 1, 2)):
            self.is_bool(False, plan_right(F, plan_of(order)))

    def test_names(self):
        self.is_bool(True, plan_right(book=AB_BC_CD, plan=(0, (1, 2))))
        self.assertEqual(judged(book=AB_BC_CD, plan=(0, (1, 2))), ("right", ((2,), (1,))))


class Edges(Case):

    def test_one_source(self):
        for book in (((0,),), ((5, 23),)):
            self.is_bool(True, plan_right(book, 0))
            self.assertEqual(judged(book, 0), ("right", ()))

    def test_two_sources(self):
        for book, z in ((((0, 1), (0, 1)), (0, 1)), (((0,), (0, 1)), (0,)), (((0, 1, 2), (1, 2, 3)), (1, 2))):
            for plan in ((0, 1), (1, 0)):
                self.is_bool(True, plan_right(book, plan))
                self.assertEqual(judged(book, plan), ("right", (z,)))

    def test_same_schemes_and_one_within_another(self):
        book = ((0, 1), (0, 1), (0, 1))
        for plan in all_plans((0, 1, 2)):
            self.assertEqual(judged(book, plan), ("right", ((0, 1), (0, 1))))
        book = ((0,), (0, 1), (0, 1, 2))
        self.assertEqual(judged(book, (0, (1, 2))), ("right", ((0, 1), (0,))))
        self.assertEqual(judged(book, ((0, 1), 2))[0], "unlike")
        self.assertEqual(judged(book, ((0, 2), 1))[0], "unlike")

    def test_twelve_sources(self):
        self.assertEqual(judged(TWELVE, ELEVEN_DEEP), ("right", tuple((k,) for k in range(1, 12))))
        self.is_bool(True, plan_right(TWELVE, ELEVEN_DEEP))
        self.refused(BadPlan, -1, judged, TWELVE, (ELEVEN_DEEP, 0))
        self.is_bool(False, plan_right(TWELVE, (ELEVEN_DEEP, 0)))
        thirteen = TWELVE + ((12, 13),)
        self.refused(BadBook, -1, judged, thirteen, ELEVEN_DEEP)
        self.is_bool(False, plan_right(thirteen, ELEVEN_DEEP))
        ring = TWELVE[:11] + ((0, 11),)
        self.is_bool(False, plan_right(ring, ELEVEN_DEEP))
        self.assertEqual(judged(ring, ELEVEN_DEEP)[0], "unlike")

    def test_apart_at_a_fork_far_behind(self):
        order = (0, 11, 2, 9, 4, 7, 6, 5, 8, 3, 10, 1)
        self.assertEqual(judged(TWELVE, plan_of(order))[0], "apart")
        plan = plan_of((0, 2, 4, 6, 8, 10))
        told = judged(TWELVE, (plan, plan_of((1, 3, 5, 7, 9, 11))))
        self.assertEqual(told[:2], ("apart", 10))
        self.is_bool(True, plain_wrong(TWELVE, (plan, plan_of((1, 3, 5, 7, 9, 11))), told))

    def test_the_pieces_may_be_of_the_right_side(self):
        for plan in ((1, (0, 2)), (1, (2, 0))):
            told = judged(AB_BC_CD, plan)
            self.is_bool(True, plain_wrong(AB_BC_CD, plan, told))
            self.assertEqual(told[:2], ("apart", 1))


class Searches(Case):

    def test_all_plans_of_small_books(self):
        random = Random(22)
        words = []
        for round_number in range(120):
            columns = random.choice((2, 4, 6))
            book = joined_book(random, 4, columns, 3) if round_number % 4 else ring_book(random, 4, 3 + round_number % 2)
            for plan in all_plans(tuple(range(len(book)))):
                right = plain_right(book, plan)
                self.is_bool(right, plan_right(book, plan))
                told = judged(book, plan)
                words.append(told[0])
                self.assertEqual(told, judged(book, plan))
                if right:
                    zs = tuple(plain_meet(book, *sides) for sides in plain_forks(plan))
                    self.assertEqual(told, ("right", zs))
                    self.is_bool(True, right_right(book, plan, told[1]))
                else:
                    self.is_bool(True, plain_wrong(book, plan, told))
                    self.is_bool(True, wrong_right(book, plan, told))
                    zs = tuple(plain_meet(book, *sides) for sides in plain_forks(plan))
                    self.is_bool(False, right_right(book, plan, zs))
        for word in ("right", "apart", "unlike"):
            self.assertGreater(words.count(word), 300, word)

    def test_plans_of_large_books(self):
        random = Random(24)
        words = []
        began = perf_counter()
        for round_number in range(200):
            many = random.randint(5, 12)
            book = right_book(random, many) if round_number % 2 else ring_book(random, many, random.randint(3, many))
            plan = random_plan(random, random.sample(range(many), many))
            told = judged(book, plan)
            words.append(told[0])
            self.is_bool(told[0] == "right", plain_right(book, plan))
            self.is_bool(told[0] == "right", plan_right(book, plan))
            if told[0] != "right":
                self.is_bool(True, plain_wrong(book, plan, told))
                self.is_bool(True, wrong_right(book, plan, told))
        self.assertEqual(sorted(set(words)), ["apart", "right", "unlike"])
        self.assertLess(perf_counter() - began, 30)

    def test_a_right_plan_tells_the_whole_under_each_rule(self):
        random = Random(25)
        for _ in range(60):
            book = right_book(random, random.randint(2, 5))
            for plan in all_plans(tuple(range(len(book)))):
                if random.random() < 0.5 and plain_right(book, plan):
                    data = random_data(random, book, 3, 2)
                    rule = random_rule(random, 8, 2)
                    self.assertEqual(run(book, data, plan, rule), whole(book, data))


class Refusals(Case):

    def test_order_of_refusals(self):
        self.refused(BadBook, -1, judged, (), None)
        self.refused(BadBook, 1, judged, ((0,), (24,)), (0, 0))
        self.refused(Apart, 2, judged, APART, None)
        self.refused(Apart, 1, judged, ((0,), (1,)), (0, 0))
        self.refused(Apart, 1, judged, ((0,), (1,), (2,), (0, 2)), 5)
        self.refused(BadPlan, -1, judged, TRIANGLE, ((0, 0), 3))
        self.refused(BadPlan, -1, judged, TRIANGLE, (True, (0, 2)))
        self.refused(Twice, 1, judged, TRIANGLE, ((0, 1), 1))
        self.refused(Lacking, 1, judged, TRIANGLE, (0, 2))
        self.refused(BadPlan, -1, judged, TRIANGLE, forked(12))

    def test_what_is_no_plan_of_the_book_is_not_right(self):
        for plan in (0, 2, (0, 1), (0, 0), ((0, 1), 1), ((0, 1), 3), ((0, True), 2), (0, 1, 2)):
            self.is_bool(False, plan_right(AB_BC_CD, plan))

    def test_books_that_do_not_hang_together(self):
        for plan in all_plans((0, 1, 2, 3))[:50]:
            self.is_bool(False, plan_right(APART, plan))
        self.is_bool(False, plan_right(((0,), (1,)), (0, 1)))

    def test_odd_values_in_any_place(self):
        for thing in ODD:
            wanted = isinstance(thing, int) and not isinstance(thing, bool) and thing == 0
            self.is_bool(False, plan_right(AB_BC_CD, thing))
            self.is_bool(wanted, plan_right(AB_BC_CD, ((thing, 1), 2)))
            self.is_bool(False, plan_right(AB_BC_CD, (thing, thing)))
            self.is_bool(False, plan_right(thing, ((0, 1), 2)))
            self.is_bool(False, plan_right(AB_BC_CD[:2] + (thing,), ((0, 1), 2)))
            self.is_bool(False, plan_right(thing, thing))

    def test_good_is_asked_at_each_fork(self):
        book = ((0, 1), (1, 2), (2, 3), (3, 4))
        for plan in all_plans((0, 1, 2, 3)):
            wanted = all([plain_good(book, left, right) for left, right in plain_forks(plan)])
            self.is_bool(wanted, plan_right(book, plan))


if __name__ == "__main__":
    unittest.main()
