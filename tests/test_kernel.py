"""[46], with [35] and [44]: the judges of all papers."""

import ast
import os
import unittest
from random import Random

from behindboth import kernel
from behindboth.judge import judged
from behindboth.kernel import coverer_right, right_right, ring_right, stuck_right, wrong_right
from behindboth.plans import plan_of
from behindboth.rings import ring
from helpers import AB_BC_CD, APART, F, ODD, TRIANGLE, TWELVE, Case, random_book, random_plan
from searches import (
    all_plans, bent, is_number, joined_book, plain_can_go_last, plain_forks, plain_hangs, plain_is_ring, plain_meet,
    plain_right, plain_wrong, right_book, ring_book,
)

ABX = ((0, 1, 2), (0, 1, 3), (0, 4))
UNLIKE = ("unlike", 1, 2, 1, 1, (2, 0), (1,))
SOURCES, XS = (0, 1, 2), (1, 2, 0)
TOLD = [(thing, repr(thing)) for thing in ODD]


def plain_group(book, thing):
    """Whether a thing, of which nothing is known, is a group."""
    return isinstance(thing, tuple) and len(thing) > 0 and all(is_number(part, len(book)) for part in thing) and (
        list(thing) == sorted(set(thing)))


def plain_stuck(book, group):
    if not plain_group(book, group) or len(group) < 2 or not plain_hangs(book, group):
        return False
    return not any(plain_can_go_last(book, group, source) for source in group)


def plain_coverer(book, source, group):
    if not is_number(source, len(book)) or not plain_group(book, group) or source in group:
        return False
    return plain_hangs(book, group) and set(book[source]) <= {column for s in group for column in book[s]}


class Leans(unittest.TestCase):

    def test_on_nothing_but_books_groups_plans_and_forks(self):
        with open(kernel.__file__, encoding="utf-8") as file:
            tree = ast.parse(file.read())
        files = {os.path.basename(node.module.replace(".", "/")) for node in tree.body
                 if isinstance(node, ast.ImportFrom)}
        self.assertLessEqual(files, {"books", "groups", "plans", "forks", "errors", "values"})


class RightRight(Case):

    def test_examples(self):
        self.is_bool(True, right_right(AB_BC_CD, ((0, 1), 2), ((1,), (2,))))
        self.is_bool(True, right_right(book=F, plan=((0, 1), (2, 3)), zs=((0, 1), (0, 4), (0,))))
        self.is_bool(True, right_right(((7,),), 0, ()))
        self.is_bool(False, right_right(AB_BC_CD, ((0, 2), 1), ((), (1, 2))))

    def test_true_is_no_column(self):
        self.is_bool(False, right_right(AB_BC_CD, ((0, 1), 2), ((True,), (2,))))
        self.is_bool(True, right_right(((0,), (0,)), (0, 1), ((0,),)))
        self.is_bool(False, right_right(((0,), (0,)), (0, 1), ((False,),)))
        self.is_bool(False, right_right(((0,), (0,)), (False, True), ((0,),)))
        self.is_bool(False, right_right(((False,), (0,)), (0, 1), ((0,),)))

    def test_plans_of_some_sources(self):
        self.is_bool(False, right_right(AB_BC_CD, (0, 1), ((1,),)))
        self.is_bool(False, right_right(AB_BC_CD, 0, ()))
        self.is_bool(False, right_right(AB_BC_CD, ((0, 1), 1), ((1,), (1,))))

    def test_books_that_do_not_hang_together(self):
        for plan in all_plans((0, 1, 2, 3)):
            zs = tuple(plain_meet(APART, *sides) for sides in plain_forks(plan))
            self.is_bool(False, right_right(APART, plan, zs))
        self.is_bool(False, right_right(((0,), (1,)), (0, 1), ((),)))

    def test_twelve_sources(self):
        zs = tuple((k,) for k in range(1, 12))
        deep = plan_of(tuple(range(12)))
        self.is_bool(True, right_right(TWELVE, deep, zs))
        self.is_bool(False, right_right(TWELVE, deep, zs + ((12,),)))
        self.is_bool(False, right_right(TWELVE + ((12, 13),), (deep, 12), zs + ((12,),)))

    def test_bent(self):
        random = Random(461)
        for many in (2, 3, 4) * 8 + (5,):
            book = right_book(random, many)
            plans = all_plans(tuple(range(many)))
            for plan in random.sample(plans, min(120, len(plans))):
                zs = tuple(plain_meet(book, *sides) for sides in plain_forks(plan))
                self.is_bool(plain_right(book, plan), right_right(book, plan, zs))
                if random.random() < 0.2 and plain_right(book, plan):
                    for thing in bent(zs):
                        self.is_bool(repr(thing) == repr(zs), right_right(book, plan, thing))

    def test_bent_plans(self):
        plan, zs = ((0, 1), (2, 3)), ((0, 1), (0, 4), (0,))
        for thing in bent(plan):
            wanted = repr(thing) in ("((1, 0), (2, 3))", "((0, 1), (3, 2))")
            self.is_bool(wanted or thing == plan and repr(thing) == repr(plan), right_right(F, thing, zs))


class WrongRight(Case):

    def test_examples(self):
        self.is_bool(True, wrong_right(AB_BC_CD, ((0, 2), 1), ("apart", 1, (0, 1, 2))))
        self.is_bool(True, wrong_right(AB_BC_CD, ((0, 2), 1), ("apart", 1, (2, 1, 0))))
        self.is_bool(True, wrong_right(book=ABX, plan=((0, 2), 1), paper=UNLIKE))
        self.is_bool(False, wrong_right(AB_BC_CD, ((0, 1), 2), ("apart", 1, (0, 1, 2))))

    def test_true_and_false_are_no_numbers(self):
        self.is_bool(False, wrong_right(AB_BC_CD, ((0, 2), 1), ("apart", True, (0, 1, 2))))
        self.is_bool(False, wrong_right(AB_BC_CD, ((0, 2), 1), ("apart", 1, (0, True, 2))))
        self.is_bool(False, wrong_right(AB_BC_CD, ((0, 2), 1), ("apart", 1, (False, 1, 2))))
        for at in (1, 3, 4):
            self.is_bool(False, wrong_right(ABX, ((0, 2), 1), UNLIKE[:at] + (True,) + UNLIKE[at + 1:]))
        self.is_bool(False, wrong_right(ABX, ((0, 2), 1), UNLIKE[:5] + ((2, False), (1,))))
        self.is_bool(False, wrong_right(ABX, ((0, 2), 1), UNLIKE[:5] + ((2, 0), (True,))))

    def test_the_ends_are_in_unlike_pieces(self):
        # Of the chain 0 and 2 are in one piece of the left side, by source 1.
        book = AB_BC_CD + ((0, 3),)
        self.is_bool(False, wrong_right(book, (((0, 1), 2), 3), ("apart", 2, (0, 3, 2))))
        self.is_bool(True, wrong_right(book, (((0, 2), 1), 3), ("apart", 1, (0, 1, 2))))

    def test_all_between_are_on_the_other_side(self):
        book = TWELVE[:4]
        self.is_bool(True, wrong_right(book, ((0, 3), (1, 2)), ("apart", 2, (0, 1, 2, 3))))
        self.is_bool(True, wrong_right(book, ((1, 2), (0, 3)), ("apart", 2, (3, 2, 1, 0))))
        self.is_bool(False, wrong_right(book, ((0, (1, 3)), 2), ("apart", 2, (0, 1, 2, 3))))
        self.is_bool(True, wrong_right(book, ((0, (1, 3)), 2), ("apart", 2, (1, 2, 3))))
        self.is_bool(False, wrong_right(book, ((0, (1, 3)), 2), ("apart", 2, (1, 2))))

    def test_forks_within_both_sides_are_good(self):
        # At the last fork 1 and 3 share 0, but not 5; within the left side 0 and 2 have no neighbours across.
        book = ((5, 6), (0, 6, 7), (5, 7), (0, 5))
        paper = ("unlike", 2, 1, 3, 5, (1, 0), (3,))
        self.is_bool(False, wrong_right(book, (((0, 1), 2), 3), paper))
        book = ((5, 6), (0, 6, 7), (7, 8), (0, 5))
        self.is_bool(True, wrong_right(book, (((0, 1), 2), 3), paper))
        self.is_bool(False, wrong_right(book, (((0, 2), 1), 3), paper))

    def test_books_that_do_not_hang_together(self):
        book = AB_BC_CD + ((9,),)
        self.is_bool(True, wrong_right(book, (((0, 2), 1), 3), ("apart", 1, (0, 1, 2))))
        self.is_bool(True, wrong_right(ABX + ((9,),), (((0, 2), 1), 3), UNLIKE))
        self.is_bool(True, wrong_right(ABX + ((9,),), (3, ((0, 2), 1)), UNLIKE))
        self.is_bool(False, wrong_right(ABX + ((9,),), ((0, 2), 1), UNLIKE))
        self.is_bool(False, wrong_right(((0,), (1,)), (0, 1), ("apart", 0, (0, 1))))

    def test_books_of_one_source_and_of_two(self):
        self.is_bool(False, wrong_right(((0,),), 0, ("apart", 0, (0,))))
        self.is_bool(False, wrong_right(((0,), (0, 1)), (0, 1), ("unlike", 0, 0, 1, 0, (0,), (1,))))
        self.is_bool(False, wrong_right(((0,), (0, 1)), (0, 1), ("unlike", 0, 0, 1, 1, (0,), (1,))))

    def test_bent(self):
        random = Random(462)
        words = []
        for round_number in range(100):
            many = random.randint(3, 6)
            book = (right_book(random, many), ring_book(random, many, 3), random_book(random, 6, 7, 4))[
                round_number % 3]
            plan = random_plan(random, random.sample(range(len(book)), len(book)))
            if not plain_hangs(book, range(len(book))):
                papers = [("apart", len(book) - 2, (0, 1, 2))]
            else:
                papers = [judged(book, plan)]
            for paper in papers:
                words.append(paper[0])
                for thing in [paper, *bent(paper)]:
                    wanted = plain_wrong(book, plan, thing)
                    self.is_bool(wanted, wrong_right(book, plan, thing))
                    words.append(wanted)
        for word in ("apart", "unlike", "right"):
            self.assertGreater(words.count(word), 5, word)
        self.assertGreater(words.count(True), 50)

    def test_all_ways_of_small_books(self):
        """All papers of small books that could be, beside the plain own judge."""
        random = Random(463)
        right = 0
        for _ in range(26):
            book = joined_book(random, 4, 4, 3)
            many = len(book)
            ways = [way for k in range(1, many + 1) for way in ordered(range(many), k)]
            plans = all_plans(tuple(range(many)))
            for plan in random.sample(plans, min(4, len(plans))):
                papers = [("apart", f, way) for f in range(many) for way in ways]
                papers += [
                    ("unlike", f, one[0], two[0], z, one, two)
                    for f in range(many) for one in ways for two in ways for z in range(4) if not set(one) & set(two)
                ]
                for paper in papers:
                    wanted = plain_wrong(book, plan, paper)
                    self.assertFalse(wanted and plain_right(book, plan))
                    right += wanted
                    self.is_bool(wanted, wrong_right(book, plan, paper))
        self.assertGreater(right, 100)

    def test_never_both(self):
        random = Random(464)
        for _ in range(100):
            book = joined_book(random, 5, 6, 4)
            plan = random_plan(random, random.sample(range(len(book)), len(book)))
            zs = tuple(plain_meet(book, *sides) for sides in plain_forks(plan))
            told = judged(book, plan)
            self.assertEqual(right_right(book, plan, zs) + wrong_right(book, plan, told), 1)


def ordered(sources, many):
    """All tuples of so many unlike sources."""
    if many == 0:
        return [()]
    return [way + (s,) for way in ordered(sources, many - 1) for s in sources if s not in way]


class RingRight(Case):

    def test_examples(self):
        self.is_bool(True, ring_right(TRIANGLE, SOURCES, XS))
        self.is_bool(True, ring_right(book=TRIANGLE, sources=(2, 1, 0), xs=(2, 1, 0)))
        self.is_bool(False, ring_right(TRIANGLE, SOURCES, (1, 0, 2)))
        self.is_bool(False, ring_right(TRIANGLE, (0, 1), (1, 1)))

    def test_true_is_no_number(self):
        self.is_bool(False, ring_right(TRIANGLE, (0, True, 2), XS))
        self.is_bool(False, ring_right(TRIANGLE, (False, 1, 2), XS))
        self.is_bool(False, ring_right(TRIANGLE, SOURCES, (True, 2, 0)))
        self.is_bool(False, ring_right(TRIANGLE, SOURCES, (1, 2, False)))

    def test_the_last_column_others_may_have_too(self):
        book = ((0, 1), (0, 1, 2), (0, 2))
        self.is_bool(True, ring_right(book, SOURCES, XS))
        self.is_bool(False, ring_right(book, (1, 2, 0), (2, 0, 1)))
        self.is_bool(False, ring_right(((0, 1), (0, 1, 2), (1, 2, 0)), SOURCES, XS))

    def test_columns_of_sources_that_are_not_in_the_ring(self):
        self.is_bool(True, ring_right(TRIANGLE + ((0, 1, 2),), SOURCES, XS))

    def test_twelve_sources(self):
        book = TWELVE[:11] + ((0, 11),)
        xs = tuple(range(1, 12)) + (0,)
        self.is_bool(True, ring_right(book, tuple(range(12)), xs))
        self.is_bool(False, ring_right(book, tuple(range(12)), xs + (0,)))
        self.is_bool(False, ring_right(book, tuple(range(11)), xs[:11]))

    def test_books_that_do_not_hang_together(self):
        self.is_bool(True, ring_right(TRIANGLE + ((9,),), SOURCES, XS))
        self.is_bool(False, ring_right(APART, (0, 1, 3), (1, 2, 0)))

    def test_bent(self):
        random = Random(465)
        for round_number in range(40):
            book = ring_book(random, 6, random.randint(3, 6))
            told = ring(book)
            for sources in bent(told[0]):
                self.is_bool(plain_looks(book, sources, told[1]), ring_right(book, sources, told[1]))
            for xs in bent(told[1]):
                self.is_bool(plain_looks(book, told[0], xs), ring_right(book, told[0], xs))

    def test_all_rows_of_small_books(self):
        random = Random(466)
        rings = 0
        for _ in range(20):
            book = random_book(random, 4, 4, 3)
            for many in range(len(book) + 1):
                for sources in ordered(range(len(book)), many):
                    for xs in ordered(range(4), many):
                        wanted = plain_is_ring(book, sources, xs)
                        rings += wanted
                        self.is_bool(wanted, ring_right(book, sources, xs))
        self.assertGreater(rings, 10)


def plain_looks(book, sources, xs):
    """As plain_is_ring, of things of which nothing is known."""
    for thing, below in ((sources, len(book)), (xs, 24)):
        if not isinstance(thing, tuple) or not all(is_number(part, below) for part in thing):
            return False
    return plain_is_ring(book, sources, xs)


class StuckRight(Case):

    def test_examples(self):
        self.is_bool(True, stuck_right(F, (0, 1, 2, 3)))
        self.is_bool(False, stuck_right(book=F, group=(0, 1, 2)))
        self.is_bool(True, stuck_right(TRIANGLE, (0, 1, 2)))
        self.is_bool(False, stuck_right(ABX, (0, 1, 2)))

    def test_one_source_and_two(self):
        self.is_bool(False, stuck_right(F, (0,)))
        self.is_bool(False, stuck_right(F, (0, 1)))
        self.is_bool(False, stuck_right(((0,),), (0,)))
        self.is_bool(False, stuck_right(((0,), (1,)), (0, 1)))

    def test_books_that_do_not_hang_together(self):
        self.is_bool(True, stuck_right(F + ((9,),), (0, 1, 2, 3)))
        self.is_bool(False, stuck_right(F + ((9,),), (0, 1, 2, 3, 4)))
        self.is_bool(True, stuck_right(TRIANGLE + ((9,),), (0, 1, 2)))

    def test_all_groups_and_bent_ones(self):
        random = Random(467)
        found = []
        for round_number in range(80):
            book = ring_book(random, 6, random.randint(3, 6)) if round_number % 2 else random_book(random, 6, 7, 4)
            for bits in range(1 << len(book)):
                group = tuple(s for s in range(len(book)) if bits >> s & 1)
                found.append(plain_stuck(book, group))
                self.is_bool(found[-1], stuck_right(book, group))
        for thing in bent((0, 1, 2, 3)):
            self.is_bool(plain_stuck(F, thing), stuck_right(F, thing))
        self.assertGreater(found.count(True), 30)


class CovererRight(Case):

    def test_examples(self):
        for source, group in ((0, (1, 2)), (1, (0, 2)), (2, (0, 1))):
            self.is_bool(True, coverer_right(TRIANGLE, source, group))
        self.is_bool(True, coverer_right(book=((0,), (0, 1)), source=0, group=(1,)))
        self.is_bool(False, coverer_right(((0,), (0, 1)), 1, (0,)))

    def test_what_does_not_cover(self):
        self.is_bool(False, coverer_right(TRIANGLE, 0, (0, 1, 2)))
        self.is_bool(False, coverer_right(TRIANGLE, 0, (0,)))
        self.is_bool(False, coverer_right(TRIANGLE, 0, (2, 1)))
        self.is_bool(False, coverer_right(TRIANGLE, 0, (1,)))
        self.is_bool(False, coverer_right(TRIANGLE, 0, ()))
        self.is_bool(False, coverer_right(TRIANGLE, 3, (1, 2)))
        self.is_bool(False, coverer_right(TRIANGLE, False, (1, 2)))
        self.is_bool(False, coverer_right(TRIANGLE, True, (0, 2)))
        self.is_bool(False, coverer_right(TRIANGLE, 1, (False, 2)))

    def test_the_group_hangs_together(self):
        book = ((0, 1), (0, 2), (1, 3))
        self.is_bool(False, coverer_right(book, 0, (1, 2)))
        self.is_bool(True, coverer_right(book + ((2, 3),), 0, (1, 2, 3)))
        self.is_bool(True, coverer_right(book + ((2, 3), (9,)), 0, (1, 2, 3)))
        self.is_bool(False, coverer_right(book + ((2, 3), (9,)), 0, (1, 2, 3, 4)))

    def test_all_groups_and_bent_ones(self):
        random = Random(468)
        found = []
        for _ in range(80):
            book = random_book(random, 6, 7, 4)
            for bits in range(1 << len(book)):
                group = tuple(s for s in range(len(book)) if bits >> s & 1)
                for source in range(len(book)):
                    found.append(plain_coverer(book, source, group))
                    self.is_bool(found[-1], coverer_right(book, source, group))
        for thing in bent((1, 2)):
            self.is_bool(plain_coverer(TRIANGLE, 0, thing), coverer_right(TRIANGLE, 0, thing))
        self.assertGreater(found.count(True), 30)
        self.assertGreater(found.count(False), 30)


class OddValues(Case):
    """In any argument's place, and within papers. None of these values is right there, but where it is said."""

    GOOD = (
        (right_right, (AB_BC_CD, ((0, 1), 2), ((1,), (2,)))),
        (wrong_right, (AB_BC_CD, ((0, 2), 1), ("apart", 1, (0, 1, 2)))),
        (wrong_right, (ABX, ((0, 2), 1), UNLIKE)),
        (ring_right, (TRIANGLE, SOURCES, XS)),
        (stuck_right, (F, (0, 1, 2, 3))),
        (coverer_right, (TRIANGLE, 2, (0, 1))),
    )

    def test_each_argument(self):
        for function, arguments in self.GOOD:
            self.is_bool(True, function(*arguments))
            for at in range(len(arguments)):
                for thing, told in TOLD:
                    changed = arguments[:at] + (thing,) + arguments[at + 1:]
                    self.is_bool(told == repr(arguments[at]), function(*changed))

    def test_all_arguments(self):
        for function, arguments in self.GOOD:
            for thing in ODD:
                self.is_bool(False, function(*[thing] * len(arguments)))

    def test_each_part(self):
        for function, arguments in self.GOOD:
            for at, argument in enumerate(arguments):
                if isinstance(argument, tuple):
                    for place in range(len(argument)):
                        for thing, told in TOLD:
                            changed = argument[:place] + (thing,) + argument[place + 1:]
                            # With left and right exchanged at its first fork the plan is as right as it was.
                            turned = (function, at, place, told) == (right_right, 1, 0, "(1, 0)")
                            wanted = turned or told == repr(argument[place])
                            self.is_bool(wanted, function(*arguments[:at], changed, *arguments[at + 1:]))

    def test_equal_calls(self):
        for function, arguments in self.GOOD:
            self.assertEqual(function(*arguments), function(*arguments))


if __name__ == "__main__":
    unittest.main()
