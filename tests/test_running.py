"""[16], [18], [19], [20]: plans run under rules."""

import unittest
from random import Random
from time import perf_counter

from behindboth.errors import BadBook, BadData, BadPlan, BadRule, TooMany, Twice
from behindboth.plans import plan_of
from behindboth.running import run, stages
from behindboth.whole import whole
from helpers import (
    AB_BC, AB_BC_CD, F, TRIANGLE, Case, meeting, plain_run, random_book, random_data, random_part, random_plan,
    random_rule,
)

YES = (((), True),)
BETWEEN = ((0, 1), (0, 2), (1, 2))
BETWEEN_DATA = (((3, 4),), (), ((4, 9),))


class Running(Case):

    def test_the_example_of_18(self):
        data = (((5, 6),), ((6, 7),), ((8, 7),))
        for rule in ((), YES, (((("left", 0),), True),)):
            told = stages(TRIANGLE, data, ((0, 1), 2), rule)
            self.assertEqual(told, (((0, 0, None),), ((None, None, 0), (0, 0, None))))
            self.assertEqual(run(TRIANGLE, data, ((0, 1), 2), rule), told[-1])
        self.assertEqual(whole(TRIANGLE, data), ((None, 0, 0), (0, 0, None)))

    def test_the_examples_of_19(self):
        apart, together = ((None, None, 0), (0, None, None)), ((0, None, 0),)
        for rule, told in (
            ((), apart), (YES, together), ((((("fork", 1), ("both", 1)), True),), together),
            ((((("none", 0),), True),), apart),
        ):
            self.assertEqual(run(BETWEEN, BETWEEN_DATA, ((0, 1), 2), rule), told)
            self.assertEqual(run(book=BETWEEN, data=BETWEEN_DATA, plan=((0, 1), 2), rule=rule), told)
        self.assertEqual(
            stages(book=BETWEEN, data=BETWEEN_DATA, plan=((0, 1), 2), rule=YES), (((0, None, None),), together))

    def test_a_source(self):
        data = (((1, 5), (2, 6)), ((5, 7),))
        self.assertEqual(run(AB_BC, data, 0, ()), ((0, None), (1, None)))
        self.assertEqual(run(AB_BC, data, 1, YES), ((None, 0),))
        self.assertEqual(stages(AB_BC, data, 0, ()), ())
        self.assertEqual(run(((0,),), ((),), 0, ()), ())

    def test_a_full_outer_join(self):
        data = (((1, 5), (2, 6)), ((5, 7), (5, 8), (9, 9)))
        wanted = ((None, 2), (0, 0), (0, 1), (1, None))
        self.assertEqual(run(AB_BC, data, (0, 1), ()), wanted)
        self.assertEqual(run(AB_BC, data, (1, 0), ()), wanted)

    def test_sides_that_share_no_column(self):
        data = (((1, 2),), ((2, 3),), ((3, 4),))
        self.assertEqual(run(AB_BC_CD, data, (0, 2), YES), ((None, None, 0), (0, None, None)))
        self.assertEqual(run(AB_BC_CD, data, ((0, 2), 1), YES), ((None, 0, 0), (0, 0, None)))

    def test_a_right_plan_tells_the_whole(self):
        random = Random(16)
        for _ in range(60):
            data = random_data(random, F, 4, 2)
            rule = random_rule(random, 7, 2)
            self.assertEqual(run(F, data, ((3, 2), (0, 1)), rule), whole(F, data))

    def test_left_and_right(self):
        rule = (((("left", 0),), True),)
        self.assertEqual(run(BETWEEN, BETWEEN_DATA, ((0, 1), 2), rule), ((0, None, 0),))
        self.assertEqual(run(BETWEEN, BETWEEN_DATA, (2, (0, 1)), rule), ((None, None, 0), (0, None, None)))

    def test_beside_a_plain_runner(self):
        random = Random(17)
        for _ in range(400):
            columns = random.choice((3, 4, 6))
            book = random_book(random, 5, columns, 3)
            data = random_data(random, book, 4, 2)
            plan = random_part(random, book)
            rule = random_rule(random, columns, 2)
            all_stages, result = plain_run(book, data, plan, rule)
            self.assertEqual(stages(book, data, plan, rule), all_stages)
            self.assertEqual(run(book, data, plan, rule), result)

    def test_larger_ones_beside_a_plain_runner(self):
        random = Random(18)
        for _ in range(30):
            book = random_book(random, 8, 8, 4)
            data = random_data(random, book, 12, 3)
            plan = random_plan(random, random.sample(range(len(book)), len(book)))
            rule = random_rule(random, 8, 3)
            try:
                told = stages(book, data, plan, rule)
            except TooMany:
                continue
            self.assertEqual((told, run(book, data, plan, rule)), plain_run(book, data, plan, rule))

    def test_order_of_refusals(self):
        for function in (run, stages):
            self.refused(BadBook, -1, function, (), None, None, None)
            self.refused(BadData, -1, function, AB_BC, None, None, None)
            self.refused(BadData, (0, 0), function, AB_BC, ((None,), ()), (0, 0), None)
            self.refused(BadPlan, -1, function, AB_BC, ((), ()), (0, 2), None)
            self.refused(BadPlan, -1, function, AB_BC, ((), ()), (True, 0), ())
            self.refused(Twice, 0, function, AB_BC, ((), ()), (0, 0), None)
            self.refused(BadRule, -1, function, AB_BC, ((), ()), (0, 1), None)
            self.refused(BadRule, 0, function, AB_BC, ((), ()), 0, (((), 1),))
            self.refused(BadPlan, -1, function, ((0,),) * 12, ((),) * 12, (plan_of(tuple(range(12))), 0), ())


class Many(Case):

    def test_3000_rows_and_more(self):
        book, data = meeting((40, 25, 3))
        for plan in (((0, 1), 2), (2, (0, 1))):
            told = stages(book, data, plan, ())
            self.assertEqual([len(result) for result in told], [1000, 3000])
            self.assertEqual(run(book, data, plan, ()), told[-1])
        one_more = data[:2] + (data[2] + ((8, 0),),)
        for function in (run, stages):
            self.refused(TooMany, 3000, function, book, one_more, ((0, 1), 2), ())
            self.refused(TooMany, 3000, function, *meeting((40, 38, 2)), ((0, 1), 2), ())

    def test_more_at_a_fork_that_is_not_the_last(self):
        book, data = meeting((40, 40, 2, 1))
        data = data[:3] + (((9, 9),),)
        for function in (run, stages):
            self.refused(TooMany, 3000, function, book, data, (((0, 1), 2), 3), ())
            self.refused(TooMany, 3000, function, book, data, ((2, (0, 1)), 3), ())

    def test_more_by_a_rule(self):
        book = ((0, 1), (0, 2), (3, 4), (3, 5), (0, 3))
        rows = tuple((7, row) for row in range(40))
        data = (rows, rows, rows, rows, ((7, 7),))
        plan = (((0, 1), 4), (2, 3))
        for function in (run, stages):
            self.refused(TooMany, 3000, function, book, data, plan, ())

    def test_more_that_stay_alone(self):
        # Both sides have 1600 rows, which share no worth: none is paired with any.
        book = ((0, 1), (0, 2), (0, 3), (0, 4))
        data = tuple(tuple((worth, row) for row in range(40)) for worth in (7, 7, 8, 8))
        for function in (run, stages):
            self.refused(TooMany, 3000, function, book, data, ((0, 1), (2, 3)), YES)

    def test_1500_and_1500_rows(self):
        book = ((0, 1), (0, 2), (5,), (0, 3), (0, 4), (5, 6))
        rows = tuple(tuple((7, row) for row in range(many)) for many in (40, 37))
        data = rows + ((),) + rows + ((),)
        plan = (((0, 1), 2), ((3, 4), 5))
        self.assertEqual(len(run(book, data, plan, ())), 2960)
        rule = (((("worth", 1, 1), ("worth", 3, 1), ("worth", 2, 1), ("worth", 4, 1)), True),)
        told = run(book, data, plan, rule)
        self.assertEqual(len(told), 2959)
        self.assertIn((1, 1, None, 1, 1, None), told)
        for function in (run, stages):
            self.refused(TooMany, 3000, function, book, data, plan, YES)


class Quick(Case):
    """[20]: each result has at most 300 rows, and a rule is asked of nearly all pairs. The bounds are wide."""

    # The two empty sources give their side columns that are blank in all rows, so that column 0 alone is never all.
    BOOK = tuple((0, k + 1) for k in range(7)) + (tuple(range(8)),) * 2
    DATA = tuple(tuple((5, 50 * k + row) for row in range(40)) for k in range(7)) + ((), ())
    RULE = tuple(((("both", 0), ("worth", c, 999999), ("none", 23)), True) for c in range(1, 20)) + (
        ((("left", 2), ("right", 5), ("worth", 2, 53), ("worth", 5, 204)), True),)

    def test_300_rows_over_several_sources(self):
        began = perf_counter()
        for plan in (plan_of((7, 8, 0, 1, 2, 3, 4, 5, 6)), (plan_of((7, 0, 1, 2)), plan_of((8, 3, 4, 5, 6)))):
            told = stages(self.BOOK, self.DATA, plan, self.RULE)
            self.assertEqual(len(told[-1]), 279)
            self.assertEqual(max(len(result) for result in told), 279)
            twos = [tags for tags in told[-1] if tags.count(None) == 7]
            self.assertEqual(twos, [(None, 3, None, None, 4) + (None,) * 4])
            self.assertEqual(run(self.BOOK, self.DATA, plan, self.RULE), told[-1])
        self.assertLess(perf_counter() - began, 10)

    def test_as_many_rows_beside_a_plain_runner(self):
        data = tuple(rows[:8] for rows in self.DATA)
        for plan in (plan_of((7, 8, 0, 1, 2, 3, 4, 5, 6)), (plan_of((7, 0, 1, 2)), plan_of((8, 3, 4, 5, 6)))):
            told = stages(self.BOOK, data, plan, self.RULE), run(self.BOOK, data, plan, self.RULE)
            self.assertEqual(told, plain_run(self.BOOK, data, plan, self.RULE))

    def test_many_small_results(self):
        random = Random(21)
        began = perf_counter()
        for _ in range(100):
            book = random_book(random, 12, 20, 6)
            data = random_data(random, book, 25, 10)
            plan = random_plan(random, random.sample(range(len(book)), len(book)))
            rule = random_rule(random, 20, 10)
            try:
                stages(book, data, plan, rule)
            except TooMany:
                pass
        self.assertLess(perf_counter() - began, 20)


if __name__ == "__main__":
    unittest.main()
