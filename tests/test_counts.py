"""[37]: right plans counted and numbered."""

import unittest
from random import Random
from time import perf_counter

from behindboth.counts import count, nth, number
from behindboth.errors import Apart, BadBook, BadNumber, BadPlan, Lacking, NotRight, TooMany, Twice
from behindboth.plans import plain, plan_of
from helpers import AB_BC_CD, APART, F, ODD, TRIANGLE, TWELVE, Case, forked
from searches import (
    all_plans, joined_book, plain_numbered, plain_plans, plain_right, right_book, ring_book, turned_plans,
)

FAN = tuple((0, k + 1) for k in range(8))


class Examples(Case):

    def test_chain(self):
        self.assertEqual(count(book=AB_BC_CD), 2)
        self.assertEqual(nth(book=AB_BC_CD, k=0), (0, (1, 2)))
        self.assertEqual(nth(AB_BC_CD, 1), ((0, 1), 2))
        self.assertEqual(number(book=AB_BC_CD, plan=((2, 1), 0)), 0)
        self.assertEqual(number(AB_BC_CD, ((1, 0), 2)), 1)

    def test_f(self):
        self.assertEqual(count(F), 1)
        self.assertEqual(nth(F, 0), ((0, 1), (2, 3)))
        for plan in turned_plans(((0, 1), (2, 3))):
            self.assertEqual(number(F, plan), 0)

    def test_eight_sources_that_share_one_column(self):
        began = perf_counter()
        self.assertEqual(count(FAN), 135135)
        random = Random(37)
        for k in (0, 1, 2, 135133, 135134, *[random.randrange(135135) for _ in range(10)]):
            plan = nth(FAN, k)
            self.assertEqual(plain(plan), plan)
            self.assertEqual(number(FAN, plan), k)
            self.assertEqual(number(FAN, turned(random, plan)), k)
        self.assertEqual(nth(FAN, 0), (0, (1, (2, (3, (4, (5, (6, 7))))))))
        self.assertEqual(nth(FAN, 135134), ((0, 7), ((1, 6), ((2, 5), (3, 4)))))
        self.refused(BadNumber, 135135, nth, FAN, 135135)
        self.assertLess(perf_counter() - began, 20)


def turned(random, plan):
    """A plan with left and right exchanged at some of its forks."""
    if isinstance(plan, int):
        return plan
    sides = turned(random, plan[0]), turned(random, plan[1])
    return sides[::-1] if random.random() < 0.5 else sides


class Edges(Case):

    def test_one_source(self):
        book = ((4, 9),)
        self.assertEqual(count(book), 1)
        self.assertEqual(nth(book, 0), 0)
        self.assertEqual(number(book, 0), 0)
        self.refused(BadNumber, 1, nth, book, 1)
        self.refused(BadNumber, -1, nth, book, -1)

    def test_two_sources(self):
        for book in (((0,), (0,)), ((0, 1), (0,))):
            self.assertEqual(count(book), 1)
            self.assertEqual(nth(book, 0), (0, 1))
            self.assertEqual(number(book, (1, 0)), 0)

    def test_books_with_a_ring(self):
        for book in (TRIANGLE, TRIANGLE + ((0, 3),), ring_book(Random(2), 8, 5)):
            self.assertEqual(count(book), 0)
            self.refused(BadNumber, 0, nth, book, 0)
            self.refused(NotRight, 0, number, book, plan_of(tuple(range(len(book)))))

    def test_chains_and_same_schemes(self):
        for many, wanted in enumerate((1, 1, 2, 5, 14, 42, 132, 429), 1):
            self.assertEqual(count(TWELVE[:many]), wanted)
        for many, wanted in enumerate((1, 1, 3, 15, 105, 945), 1):
            self.assertEqual(count(((0, 1),) * many), wanted)

    def test_nine_sources(self):
        for book in (TWELVE[:9], ring_book(Random(3), 9, 4), FAN + ((0, 9),)):
            self.refused(TooMany, 9, count, book)
            self.refused(TooMany, 9, nth, book, 0)
            self.refused(TooMany, 9, nth, book, None)
            self.refused(TooMany, 9, number, book, plan_of(tuple(range(9))))
            self.refused(Lacking, 8, number, book, plan_of(tuple(range(8))))
        self.refused(TooMany, 12, count, TWELVE)
        self.refused(BadBook, -1, count, TWELVE + ((12, 13),))


class Searches(Case):

    def test_small_books_beside_a_plain_own_list(self):
        random = Random(370)
        met = []
        for round_number in range(150):
            many = random.randint(2, 5)
            book = (
                joined_book(random, 5, random.choice((3, 5, 7)), 4), right_book(random, many),
                ring_book(random, many + 2, 3), tuple((0, k + 1) for k in range(many)),
            )[round_number % 4]
            group = tuple(range(len(book)))
            listed = plain_numbered(book, group)
            self.assertEqual(sorted(map(str, listed)), sorted(
                str(plan) for plan in plain_plans(group) if plain_right(book, plan)))
            self.assertEqual(count(book), len(listed))
            self.assertEqual([nth(book, k) for k in range(len(listed))], listed)
            self.refused(BadNumber, len(listed), nth, book, len(listed))
            self.assertEqual([number(book, plan) for plan in listed], list(range(len(listed))))
            met.append(len(listed))
        self.assertGreater(len([many for many in met if many > 5]), 20)
        self.assertGreater(met.count(0), 20)

    def test_left_and_right_exchanged(self):
        random = Random(371)
        for book in (TWELVE[:4], FAN[:4], *[right_book(random, 4) for _ in range(20)]):
            listed = plain_numbered(book, (0, 1, 2, 3))
            for plan in all_plans((0, 1, 2, 3)):
                if plain(plan) in listed:
                    self.assertEqual(number(book, plan), listed.index(plain(plan)))
                else:
                    self.refused(NotRight, 0, number, book, plan)

    def test_books_of_eight_sources(self):
        random = Random(372)
        began = perf_counter()
        for _ in range(30):
            book = right_book(random, random.randint(6, 8))
            many = count(book)
            self.assertGreater(many, 0)
            for k in (0, many - 1, random.randrange(many)):
                plan = nth(book, k)
                self.assertTrue(plain_right(book, plan))
                self.assertEqual(number(book, turned(random, plan)), k)
                self.assertEqual(nth(book, k), plan)
            self.refused(BadNumber, many, nth, book, many)
        self.assertLess(perf_counter() - began, 30)


class Refusals(Case):

    def test_order_of_refusals(self):
        self.refused(BadBook, -1, count, None)
        self.refused(BadBook, 0, count, ((),))
        self.refused(Apart, 2, count, APART)
        self.refused(Apart, 9, count, FAN + ((0, 9), (23,)))
        self.refused(BadBook, -1, nth, (), None)
        self.refused(Apart, 2, nth, APART, None)
        self.refused(Apart, 9, nth, FAN + ((0, 9), (23,)), 0)
        self.refused(BadBook, -1, number, (), None)
        self.refused(Apart, 2, number, APART, None)
        self.refused(BadPlan, -1, number, F, None)
        self.refused(BadPlan, -1, number, F, ((0, 0), 4))
        self.refused(BadPlan, -1, number, F, forked(12))
        self.refused(BadPlan, -1, number, FAN + ((0, 9),), None)
        self.refused(Twice, 0, number, F, ((0, 0), 1))
        self.refused(Lacking, 3, number, F, ((0, 1), 2))
        self.refused(NotRight, 0, number, F, (((0, 1), 2), 3))
        self.refused(NotRight, 0, number, AB_BC_CD, ((0, 2), 1))

    def test_what_is_no_number_below_the_count(self):
        for thing in ODD:
            if not isinstance(thing, int) or isinstance(thing, bool) or not 0 <= thing < 2:
                self.refused(BadNumber, thing, nth, AB_BC_CD, thing)
        for thing in (2, -1, 135135, 10 ** 30, True, False, None, "0", (0,)):
            self.refused(BadNumber, thing, nth, AB_BC_CD, thing)


if __name__ == "__main__":
    unittest.main()
