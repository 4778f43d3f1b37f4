"""[11], [12]: plans and forks."""

import unittest
from random import Random

from behindboth.errors import BadBook, BadGroup, BadOrder, BadPlan, Lacking, Twice
from behindboth.plans import cut, forks, is_plan, leaves, made_part, made_plan, plain, plan_of
from helpers import AB_BC_CD, ODD, TRIANGLE, TWELVE, Case, doubled, forked, plain_sources, random_plan

P = ((2, 0), (1, 3))
FOUR = ((0,),) * 4
ELEVEN_DEEP = plan_of(tuple(range(12)))
NO_FORM = (
    None, True, False, -1, 3, 10 ** 999, "0", "", (), (0,), (0, 1, 2), ((0, 1, 2),), (0, None), (True, 0), (0, False),
    (0, (1, 3)), (-1, (0, 1)), ((0, 1), (2,)), ((0, 1), "2"), (((),), 0), (0,) * 99999, forked(49), doubled(15),
    forked(12),
)


class Plans(Case):

    def test_good_plans(self):
        for plan in ((0, (1, 2)), ((0, 1), 2), ((2, 0), 1), (1, (2, 0))):
            self.assertEqual(made_plan(TRIANGLE, plan), plan)
            self.assertEqual(made_part(TRIANGLE, plan), plan)
            self.is_bool(True, is_plan(TRIANGLE, plan))
        self.assertEqual(made_plan(book=((5,),), thing=0), 0)
        self.is_bool(True, is_plan(book=((5,),), thing=0))

    def test_what_is_no_plan(self):
        for thing in NO_FORM:
            self.refused(BadPlan, -1, made_plan, TRIANGLE, thing)
            self.refused(BadPlan, -1, made_part, TRIANGLE, thing)
            self.is_bool(False, is_plan(TRIANGLE, thing))

    def test_eleven_and_twelve_deep(self):
        self.assertEqual(made_plan(TWELVE, ELEVEN_DEEP), ELEVEN_DEEP)
        self.is_bool(True, is_plan(TWELVE, ELEVEN_DEEP))
        self.refused(BadPlan, -1, made_plan, TWELVE, (ELEVEN_DEEP, 0))
        self.refused(BadPlan, -1, made_part, TWELVE, (0, ELEVEN_DEEP))
        self.refused(Twice, 0, made_plan, TWELVE, forked(11))
        self.refused(Twice, 0, made_part, TWELVE, doubled(11))
        self.refused(BadPlan, -1, made_plan, TWELVE, doubled(12))

    def test_twice_is_the_first_that_stands_there_already(self):
        for function in (made_plan, made_part):
            self.refused(Twice, 1, function, TRIANGLE, ((0, 1), (1, 0)))
            self.refused(Twice, 0, function, TRIANGLE, (0, 0))
            self.refused(Twice, 2, function, TRIANGLE, ((0, (1, 2)), (2, (1, 0))))
        self.refused(Twice, 1, leaves, ((0, 1), (1, 0)))

    def test_no_form_goes_ahead_of_twice_and_twice_of_lacking(self):
        for thing in (((0, 0), 3), ((0, 0), (1,)), ((1, 1), (0, True)), ((0, 0), None)):
            self.refused(BadPlan, -1, made_plan, TRIANGLE, thing)
            self.refused(BadPlan, -1, made_part, TRIANGLE, thing)
        self.refused(Twice, 2, made_plan, TRIANGLE, (2, 2))
        self.refused(Lacking, 0, made_plan, TRIANGLE, 2)
        self.refused(Lacking, 1, made_plan, TRIANGLE, (2, 0))
        self.refused(Lacking, 2, made_plan, TRIANGLE, (1, 0))
        for thing in (2, (2, 0), (2, 2), ((0, 0), 1)):
            self.is_bool(False, is_plan(TRIANGLE, thing))

    def test_plans_of_some_sources(self):
        for part in (0, 2, (2, 0), (1, 2)):
            self.assertEqual(made_part(TRIANGLE, part), part)
        self.assertEqual(made_part(book=TRIANGLE, thing=1), 1)

    def test_the_book_goes_ahead(self):
        for function in (made_plan, made_part):
            self.refused(BadBook, -1, function, (), None)
            self.refused(BadBook, 0, function, ((24,),), (0, 0))

    def test_judge_of_odd_values_in_any_place(self):
        for thing in ODD:
            self.is_bool(False, is_plan(TRIANGLE, thing))
            self.is_bool(thing == 0 and thing is not False, is_plan(TRIANGLE, ((thing, 1), 2)))
            self.is_bool(False, is_plan(thing, ((0, 1), 2)))
            self.is_bool(False, is_plan(thing, thing))
        self.is_bool(False, is_plan(((0,), (0,)), (0, True)))
        self.is_bool(False, is_plan(((0,), (0,)), (False, 1)))


class Forks(Case):

    def test_leaves(self):
        self.assertEqual(leaves(P), (0, 1, 2, 3))
        self.assertEqual(leaves(7), (7,))
        self.assertEqual(leaves(plan=(11, (3, 5))), (3, 5, 11))

    def test_forks(self):
        self.assertEqual(forks(P), (((2,), (0,)), ((1,), (3,)), ((0, 2), (1, 3))))
        self.assertEqual(forks(0), ())
        self.assertEqual(forks(plan=((0, 1), 2)), (((0,), (1,)), ((0, 1), (2,))))
        self.assertEqual(forks((9, (11, (10, 8)))), (((10,), (8,)), ((11,), (8, 10)), ((9,), (8, 10, 11))))
        self.assertEqual(len(forks(ELEVEN_DEEP)), 11)

    def test_cut(self):
        self.assertEqual(cut(P, (0, 1, 3)), (0, (1, 3)))
        self.assertEqual(cut(P, (0, 1, 2, 3)), P)
        self.assertEqual(cut(P, (3,)), 3)
        self.assertEqual(cut(P, (1, 2)), (2, 1))
        self.assertEqual(cut(plan=P, group=(1, 3)), (1, 3))
        self.assertEqual(cut(5, (5,)), 5)

    def test_cut_refuses_what_is_no_group_of_the_plan(self):
        for group in (None, 0, True, "", (), (4,), (0, 4), (1, 0), (0, 0), (True,), (-1,), ("0",), ((0,),),
                      tuple(range(99999)), (0,) * 13):
            self.refused(BadGroup, -1, cut, P, group)
        self.refused(BadGroup, -1, cut, (0, 2), (1,))
        self.refused(BadPlan, -1, cut, (0, 12), ())
        self.refused(Twice, 0, cut, (0, 0), ())

    def test_plain(self):
        self.assertEqual(plain(P), ((0, 2), (1, 3)))
        self.assertEqual(plain((1, 0)), (0, 1))
        self.assertEqual(plain(plan=((3, 2), (5, (4, 1)))), (((1, 4), 5), (2, 3)))
        self.assertEqual(plain(4), 4)
        self.assertEqual(plain(((0, 1), 2)), ((0, 1), 2))

    def test_plain_of_random_plans(self):
        random = Random(12)
        for _ in range(100):
            plan = random_plan(random, random.sample(range(12), random.randint(1, 12)))
            told = plain(plan)
            self.assertEqual(plain(told), told)
            self.assertEqual(leaves(told), leaves(plan))
            for left, right in forks(told):
                self.assertLess(left[0], right[0])
            sides = [sorted(fork) for fork in forks(plan)]
            self.assertEqual(sorted(sorted(fork) for fork in forks(told)), sorted(sides))

    def test_cut_of_random_plans(self):
        random = Random(13)
        for _ in range(100):
            plan = random_plan(random, random.sample(range(12), random.randint(1, 12)))
            group = tuple(sorted(random.sample(leaves(plan), random.randint(1, len(leaves(plan))))))
            left = cut(plan, group)
            self.assertEqual(plain_sources(left), [s for s in plain_sources(plan) if s in group])
            wanted = [tuple(tuple(s for s in side if s in group) for side in fork) for fork in forks(plan)]
            self.assertEqual(list(forks(left)), [fork for fork in wanted if fork[0] and fork[1]])

    def test_plan_of(self):
        self.assertEqual(plan_of((2, 0, 1)), ((2, 0), 1))
        self.assertEqual(plan_of((4, 3, 2, 1)), (((4, 3), 2), 1))
        self.assertEqual(plan_of(order=(11,)), 11)
        self.assertEqual(leaves(plan_of(tuple(range(12)))), tuple(range(12)))

    def test_plan_of_refuses(self):
        for order in (None, 0, True, "01", (), (12,), (-1,), (0, 0), (0, 1, 0), (True,), (0, False), ("0",), ((0,),),
                      tuple(range(13)), (0,) * 99999):
            self.refused(BadOrder, -1, plan_of, order)

    def test_no_book_is_known(self):
        for function in (leaves, forks, plain):
            for thing in NO_FORM:
                if thing not in (3, (0, (1, 3))):
                    self.refused(BadPlan, -1, function, thing)
            self.refused(BadPlan, -1, function, 12)
            self.refused(BadPlan, -1, function, ((0, 0), 12))
            self.refused(Twice, 11, function, (11, (11, 0)))
            self.refused(BadPlan, -1, function, (ELEVEN_DEEP, 0))
        self.assertEqual(made_part(AB_BC_CD, 2), 2)


if __name__ == "__main__":
    unittest.main()
