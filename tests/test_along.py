"""[50]: rows kept along a right plan."""

import unittest
from random import Random
from time import perf_counter

from behindboth.along import Along
from behindboth.errors import (
    Apart, BadBook, BadFork, BadPlan, BadRow, BadSource, Full, HasRow, Lacking, NoRow, NotRight, TooMany, Twice,
)
from behindboth.kept import Kept
from behindboth.plans import plan_of
from behindboth.running import stages
from helpers import (
    AB_BC, AB_BC_CD, APART, F, ODD, TRIANGLE, TWELVE, Case, in_order, meeting, random_rule,
)
from searches import all_plans, plain_forks, plain_right, right_book

YES = (((), True),)


def stages_told(along, book, plan, rule):
    """What stages tells of the rows that are there, led over to their tags."""
    rows = [along.rows(source) for source in range(len(book))]
    data = tuple(tuple(row for _, row in there) for there in rows)
    return tuple(
        tuple(sorted(
            [tuple(None if at is None else rows[s][at][0] for s, at in enumerate(lot)) for lot in stage], key=in_order,
        )) for stage in stages(book, data, plan, rule)
    )


def all_stages(along, plan):
    return tuple(along.stage(fork) for fork in range(len(plain_forks(plan))))


def all_told(along, book, plan):
    return all_stages(along, plan), along.touched(), tuple(along.rows(s) for s in range(len(book)))


class Example(Case):

    def test_the_example(self):
        along = Along(AB_BC_CD, ((0, 1), 2))
        self.assertEqual(along.touched(), ())
        self.assertEqual((along.stage(0), along.stage(1)), ((), ()))
        self.assertEqual(along.put(0, (5, 6)), 0)
        self.assertEqual((along.stage(0), along.stage(1)), (((0, None, None),), ((0, None, None),)))
        self.assertEqual(along.touched(), (0, 1))
        self.assertEqual(along.put(2, (7, 8)), 0)
        self.assertEqual(along.stage(1), ((None, None, 0), (0, None, None)))
        self.assertEqual(along.touched(), (1,))
        self.assertEqual(along.put(1, (6, 7)), 0)
        self.assertEqual(along.stage(0), ((0, 0, None),))
        self.assertEqual(along.stage(1), ((0, 0, 0),))
        self.assertIsNone(along.take(1, 0))
        self.assertEqual(along.stage(1), ((None, None, 0), (0, None, None)))

    def test_arguments_by_name(self):
        along = Along(book=AB_BC, plan=(1, 0))
        self.assertEqual(along.put(source=0, row=(1, 2)), 0)
        self.assertEqual(along.stage(fork=0), ((0, None),))
        self.assertEqual(along.rows(source=0), ((0, (1, 2)),))
        self.assertIsNone(along.take(source=0, tag=0))

    def test_a_plan_that_is_a_source(self):
        along = Along(((0,),), 0)
        self.assertEqual(along.put(0, (3,)), 0)
        self.assertEqual(along.touched(), ())
        self.assertEqual(along.rows(0), ((0, (3,)),))
        self.refused(BadFork, 0, along.stage, 0)


class Runs(Case):

    def drawn(self, random, book, plan, steps, worths):
        along, kept = Along(book, plan), Kept(book)
        groups = [left + right for left, right in plain_forks(plan)]
        touched = ()
        for _ in range(steps):
            source = random.randrange(len(book))
            row = tuple(random.randrange(worths) for _ in book[source])
            there = along.rows(source)
            before = all_told(along, book, plan)
            if random.random() < 0.35:
                tag = random.choice(there)[0] if there and random.random() < 0.9 else 77
                if tag == 77:
                    self.refused(NoRow, (source, 77), along.take, source, 77)
                    self.assertEqual(all_told(along, book, plan), before)
                    continue
                self.assertIsNone(along.take(source, tag))
                kept.take(source, tag)
            elif row in [other for _, other in there]:
                tag = [tag for tag, other in there if other == row][0]
                self.refused(HasRow, tag, along.put, source, row)
                self.assertEqual(all_told(along, book, plan), before)
                continue
            else:
                self.assertEqual(along.put(source, row), kept.put(source, row))
            touched = tuple(f for f, group in enumerate(groups) if source in group)
            self.assertEqual(along.touched(), touched)
            after = all_stages(along, plan)
            changed = tuple(f for f in range(len(groups)) if before[0][f] != after[f])
            self.assertEqual(changed, touched)
            for rule in ((), YES, random_rule(random, 9, worths)):
                self.assertEqual(after, stages_told(along, book, plan, rule))
            if groups:
                self.assertEqual(after[-1], kept.whole())
            self.assertEqual([along.rows(s) for s in range(len(book))], [kept.rows(s) for s in range(len(book))])

    def test_stages_beside_running(self):
        random = Random(500)
        for _ in range(25):
            book = right_book(random, random.randint(2, 5))
            plans = [plan for plan in all_plans(tuple(range(len(book)))) if plain_right(book, plan)]
            self.drawn(random, book, random.choice(plans), 40, 2)

    def test_plans_of_the_document(self):
        random = Random(501)
        for book, plan in ((F, ((3, 2), (0, 1))), (AB_BC_CD, (0, (2, 1))), (TWELVE, plan_of(tuple(range(12))))):
            self.drawn(random, book, plan, 60, 3)

    def test_stages_that_are_not_asked_each_time(self):
        random = Random(502)
        along = Along(F, ((0, 1), (2, 3)))
        for step in range(200):
            source = random.randrange(4)
            row = tuple(random.randrange(2) for _ in range(3))
            there = {other: tag for tag, other in along.rows(source)}
            if row in there:
                along.take(source, there[row])
            else:
                along.put(source, row)
            if step % 7 == 0:
                self.assertEqual(all_stages(along, ((0, 1), (2, 3))), stages_told(along, F, ((0, 1), (2, 3)), ()))
            elif step % 3 == 0:
                self.assertEqual(along.stage(0), stages_told(along, F, ((0, 1), (2, 3)), ())[0])


class Limits(Case):

    def test_forty_rows_and_one_more(self):
        along = Along(AB_BC, (0, 1))
        for worth in range(40):
            along.put(1, (worth, 0))
        self.refused(Full, 1, along.put, 1, (40, 0))
        along.take(1, 3)
        self.assertEqual(along.put(1, (40, 0)), 40)

    def test_3000_lots_and_more(self):
        book, data = meeting((40, 25, 3))
        for plan in (((0, 1), 2), (2, (1, 0))):
            along = Along(book, plan)
            for source, rows in enumerate(data):
                for row in rows:
                    along.put(source, row)
            self.assertEqual(len(along.stage(1)), 3000)
            before = all_told(along, book, plan)
            self.refused(TooMany, 3000, along.put, 1, (7, 99))
            self.refused(TooMany, 3000, along.put, 2, (8, 0))
            self.assertEqual(all_told(along, book, plan), before)
            along.take(0, 0)
            self.assertEqual(len(along.stage(1)), 39 * 75)
            self.assertEqual(along.put(2, (9, 0)), 3)

    def test_a_take_that_is_refused(self):
        # One row holds two stars together, of 1 and of 1600 lots; 1400 more are beside them.
        book = ((0, 2), (0, 1), (1, 3), (1, 4), (4, 5), (4, 6))
        plan = ((0, 1), (2, ((3, 4), 5)))
        self.assertTrue(plain_right(book, plan))
        along = Along(book, plan)
        along.put(1, (0, 0))
        along.put(0, (0, 0))
        for number in range(40):
            along.put(2, (0, number))
            along.put(3, (0, number))
        for number in range(40):
            along.put(4, (77, number))
        for number in range(35):
            along.put(5, (77, number))
        self.assertEqual(len(along.stage(4)), 3000)
        before = all_told(along, book, plan)
        self.refused(TooMany, 3000, along.take, 1, 0)
        self.assertEqual(all_told(along, book, plan), before)

    def test_hundreds_of_changes_quickly(self):
        random = Random(503)
        began = perf_counter()
        along = Along(TWELVE, plan_of(tuple(range(12))))
        for _ in range(600):
            source = random.randrange(12)
            row = (random.randrange(6), random.randrange(6))
            there = {other: tag for tag, other in along.rows(source)}
            if row in there or len(there) > 6:
                along.take(source, there[row] if row in there else min(there.values()))
            else:
                along.put(source, row)
            for fork in along.touched():
                along.stage(fork)
        self.assertLess(perf_counter() - began, 20)


class Refusals(Case):

    def test_order_of_refusals(self):
        self.refused(BadBook, -1, Along, (), None)
        self.refused(Apart, 2, Along, APART, None)
        self.refused(BadPlan, -1, Along, AB_BC_CD, None)
        self.refused(BadPlan, -1, Along, AB_BC_CD, (0, 3))
        self.refused(Twice, 0, Along, AB_BC_CD, (0, (1, 0)))
        self.refused(Lacking, 2, Along, AB_BC_CD, (0, 1))
        self.refused(NotRight, 0, Along, AB_BC_CD, ((0, 2), 1))
        self.refused(NotRight, 0, Along, TRIANGLE, ((0, 1), 2))

    def test_puts_takes_and_forks(self):
        along = Along(AB_BC_CD, ((0, 1), 2))
        along.put(0, (1, 2))
        before = all_told(along, AB_BC_CD, ((0, 1), 2))
        self.refused(BadSource, 3, along.put, 3, None)
        self.refused(BadSource, 3, along.rows, 3)
        self.refused(BadRow, -1, along.put, 0, (1, 1000000))
        self.refused(HasRow, 0, along.put, 0, (1, 2))
        for source, tag in ((0, 1), (1, 0), (3, 0), (None, "0")):
            self.refused(NoRow, (source, tag), along.take, source, tag)
        for fork in (-1, 2, True, None, "0", (0,)):
            self.refused(BadFork, fork, along.stage, fork)
        self.assertEqual(all_told(along, AB_BC_CD, ((0, 1), 2)), before)

    def test_odd_values(self):
        along = Along(AB_BC_CD, ((0, 1), 2))
        for thing in ODD:
            self.assertRaises(BadBook, Along, thing, 0)
            if not isinstance(thing, (int, tuple)):
                self.refused(BadPlan, -1, Along, AB_BC_CD, thing)
            if thing is True or thing is False or thing not in (0, 1):
                self.refused(BadFork, thing, along.stage, thing)
            if repr(thing) not in ("(0, 0)", "(1, 0)"):
                self.refused(BadRow, -1, along.put, 0, thing)
            self.refused(NoRow, (thing, thing), along.take, thing, thing)


if __name__ == "__main__":
    unittest.main()
