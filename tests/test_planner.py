"""[27] to [29]: right plans, or rings."""

import unittest
from random import Random
from time import perf_counter

from behindboth.errors import Apart, BadBook, BadRing
from behindboth.kernel import ring_right
from behindboth.plans import cut, is_plan
from behindboth.planner import plan
from behindboth.rings import made_ring, ring, why
from behindboth.splits import splits
from helpers import AB_BC_CD, APART, F, ODD, TRIANGLE, TWELVE, Case, random_book
from searches import (
    all_plans, bent, joined_book, plain_hangs, plain_has_plan, plain_has_ring, plain_is_ring, plain_plans, plain_right,
    right_book, ring_book,
)

R = ((0, 1, 2), (1, 2, 0))


class PlanOrRing(Case):

    def look_at(self, book):
        """Whether a book has a right plan, as plan, ring and why tell; what they tell is looked at."""
        made, round_about = plan(book), ring(book)
        self.assertEqual((made, round_about), (plan(book), ring(book)))
        if made is None:
            self.assertEqual(why(book), ("ring", *round_about))
            self.assertTrue(plain_is_ring(book, *round_about))
            self.is_bool(True, ring_right(book, *round_about))
            self.assertEqual(made_ring(book, round_about), round_about)
        else:
            self.assertIsNone(round_about)
            self.assertEqual(why(book), ("plan", made))
            self.is_bool(True, is_plan(book, made))
            self.assertTrue(plain_right(book, made))
        return made is not None

    def test_examples(self):
        self.assertEqual(why(F)[0], "plan")
        self.assertIn(plan(F), all_plans((0, 1, 2, 3)))
        self.assertTrue(self.look_at(F))
        self.assertIsNone(plan(TRIANGLE))
        self.assertFalse(self.look_at(TRIANGLE))
        self.assertEqual(len(ring(TRIANGLE)[0]), 3)
        self.assertTrue(self.look_at(AB_BC_CD))
        self.assertEqual(plan(book=((0,), (0, 1))), plan(((0,), (0, 1))))
        self.assertEqual(sorted(plan(((0,), (0, 1)))), [0, 1])

    def test_names(self):
        self.assertEqual(ring(book=TRIANGLE), ring(TRIANGLE))
        self.assertEqual(why(book=F), ("plan", plan(book=F)))
        self.assertEqual(made_ring(book=TRIANGLE, thing=R), R)

    def test_one_source_and_two(self):
        self.assertEqual(plan(((3, 5),)), 0)
        self.assertEqual(why(((3, 5),)), ("plan", 0))
        self.assertIsNone(ring(((3, 5),)))
        for book in (((0,), (0,)), ((0, 1), (0,)), ((0, 1), (1, 2)), ((0, 1, 2), (0, 2))):
            self.assertTrue(self.look_at(book))

    def test_same_schemes_and_one_within_another(self):
        self.assertTrue(self.look_at(((0, 1),) * 12))
        self.assertTrue(self.look_at(((0, 1),) * 5 + ((0,), (0, 2))))
        self.assertTrue(self.look_at(((0,), (0, 1), (0, 1, 2))))
        self.assertTrue(self.look_at(((0,), (1,), (0, 1))))
        self.assertTrue(self.look_at(((0, 1), (0,), (1,), (0, 1))))
        self.assertFalse(self.look_at(((0, 1), (0, 2), (1, 2), (0, 1))))
        self.assertFalse(self.look_at(((0, 1, 2), (0, 1), (1, 2), (0, 2))))

    def test_all_small_books_of_three_sources(self):
        """Books with three sources over four columns; those that hang together all."""
        schemes = [tuple(c for c in range(4) if bits >> c & 1) for bits in range(1, 16)]
        rights = 0
        for one in schemes:
            for two in schemes:
                for three in schemes:
                    book = (one, two, three)
                    if plain_hangs(book, (0, 1, 2)):
                        wanted = any(plain_right(book, tree) for tree in plain_plans((0, 1, 2)))
                        self.assertEqual(self.look_at(book), wanted)
                        rights += wanted
        self.assertGreater(rights, 100)

    def test_small_books_beside_all_plans(self):
        random = Random(28)
        found = []
        for _ in range(500):
            book = joined_book(random, 6, random.choice((3, 5, 7)), 4)
            group = tuple(range(len(book)))
            wanted = plain_has_plan(book, group, {})
            if len(book) < 6:
                self.assertEqual(wanted, any(plain_right(book, tree) for tree in plain_plans(group)))
            self.assertEqual(self.look_at(book), wanted)
            self.assertEqual(plain_has_ring(book), not wanted)
            found.append(wanted)
        self.assertGreater(found.count(True), 100)
        self.assertGreater(found.count(False), 100)

    def test_books_of_eight_sources_beside_all_halves(self):
        random = Random(29)
        for round_number in range(12):
            book = (right_book(random, 8), ring_book(random, 8, 4), joined_book(random, 8, 12, 3))[round_number % 3]
            self.assertEqual(self.look_at(book), plain_has_plan(book, tuple(range(len(book))), {}))

    def test_right_books_of_eight_to_twelve_sources(self):
        random = Random(30)
        began = perf_counter()
        for _ in range(200):
            self.assertTrue(self.look_at(right_book(random, random.randint(8, 12))))
        self.assertLess(perf_counter() - began, 30)

    def test_books_with_rings_of_eight_to_twelve_sources(self):
        random = Random(31)
        began = perf_counter()
        for _ in range(200):
            many = random.randint(8, 12)
            self.assertFalse(self.look_at(ring_book(random, many, random.randint(3, many))))
        self.assertLess(perf_counter() - began, 30)

    def test_books_of_twelve_sources_with_eight_columns_each(self):
        random = Random(32)
        began = perf_counter()
        for most in (9, 16, 24):
            for _ in range(50):
                book = tuple(tuple(sorted(random.sample(range(most), 8))) for _ in range(12))
                if plain_hangs(book, range(12)):
                    self.assertFalse(self.look_at(book))
                    self.assertEqual(splits(book, tuple(range(12))), ())
        fan = tuple(tuple(range(7)) + (7 + k,) for k in range(12))
        self.assertTrue(self.look_at(fan))
        wide = tuple(tuple(range(k, k + 8)) for k in range(12))
        self.look_at(wide)
        self.look_at(tuple(tuple(range(k // 2 + 1)) for k in range(12)))
        self.assertLess(perf_counter() - began, 30)

    def test_twelve_sources(self):
        self.assertTrue(self.look_at(TWELVE))
        self.assertTrue(self.look_at(tuple((0, k + 1) for k in range(12))))
        self.assertFalse(self.look_at(TWELVE[:11] + ((0, 11),)))
        self.assertEqual(len(ring(TWELVE[:11] + ((0, 11),))[0]), 12)
        for function in (plan, ring, why):
            self.refused(BadBook, -1, function, TWELVE + ((0,),))

    def test_each_group_that_hangs_together_has_the_plan_cut_down(self):
        random = Random(33)
        for _ in range(30):
            book = right_book(random, random.randint(3, 7))
            tree = plan(book)
            for bits in range(1, 1 << len(book)):
                group = tuple(s for s in range(len(book)) if bits >> s & 1)
                if plain_hangs(book, group):
                    self.assertTrue(plain_right(book, cut(tree, group)))

    def test_refusals(self):
        for function in (plan, ring, why):
            self.refused(BadBook, -1, function, ())
            self.refused(BadBook, 1, function, ((0,), (0, 0)))
            self.refused(Apart, 2, function, APART)
            self.refused(Apart, 1, function, ((0,), (1,), (2,)))
            for thing in ODD:
                self.assertRaises(BadBook, function, thing)


class MadeRing(Case):

    def test_rings_of_the_triangle(self):
        for sources, xs in (((0, 1, 2), (1, 2, 0)), ((2, 0, 1), (0, 1, 2)), ((2, 1, 0), (2, 1, 0)), R):
            self.assertEqual(made_ring(TRIANGLE, (sources, xs)), (sources, xs))

    def test_the_last_column_others_may_have_too(self):
        book = ((0, 1), (1, 2), (2, 3), (0, 3, 5), (0, 5))
        ring_of_four = ((0, 1, 2, 3), (1, 2, 3, 0))
        self.assertEqual(made_ring(book, ring_of_four), ring_of_four)
        book = ((0, 1), (0, 1, 2), (0, 2))
        self.assertEqual(made_ring(book, ((0, 1, 2), (1, 2, 0))), ((0, 1, 2), (1, 2, 0)))
        self.refused(BadRing, 0, made_ring, book, ((1, 2, 0), (2, 0, 1)))
        self.refused(BadRing, 0, made_ring, book, ((2, 0, 1), (0, 1, 2)))

    def test_what_is_no_ring(self):
        for thing in ODD + (((0, 1), (1, 1)), ((0, 1, 2), (1, 2)), ((0, 1), (1, 2, 0)), ((0, 1, 2),), R + (0,),
                            ("ring",) + R, [R], ((0, 1, 2), (1, 0, 2)), ((0, 1, 3), (1, 2, 0)), ((0, 1, 0), (1, 1, 0)),
                            ((0, True, 2), (1, 2, 0)), ((0, 1, 2), (True, 2, 0)), ((0, 1, 2), (1, 2, False))):
            self.refused(BadRing, 0, made_ring, TRIANGLE, thing)

    def test_bent_rings(self):
        for book in (TRIANGLE, ((0, 1, 2), (0, 1, 3), (0, 2, 3)), ((0, 1), (0, 1, 2), (0, 2)), TWELVE[:4] + ((0, 4),)):
            told = ring(book)
            for thing in bent(told):
                form = isinstance(thing, tuple) and len(thing) == 2 and all(isinstance(part, tuple) for part in thing)
                plain = form and all(
                    isinstance(x, int) and not isinstance(x, bool) and 0 <= x for part in thing for x in part)
                if plain and all(s < len(book) for s in thing[0]) and plain_is_ring(book, *thing):
                    self.assertEqual(made_ring(book, thing), thing)
                else:
                    self.refused(BadRing, 0, made_ring, book, thing)

    def test_order_of_refusals(self):
        self.refused(BadBook, -1, made_ring, (), None)
        self.refused(Apart, 3, made_ring, TRIANGLE + ((9,),), None)
        self.refused(Apart, 3, made_ring, TRIANGLE + ((9,),), R)

    def test_rings_of_random_books(self):
        random = Random(34)
        for _ in range(200):
            book = random_book(random, 6, 6, 4)
            if not plain_hangs(book, range(len(book))):
                self.assertRaises(Apart, made_ring, book, R)
            elif len(book) > 2:
                sources = tuple(random.sample(range(len(book)), 3))
                xs = tuple(random.randrange(6) for _ in range(3))
                if plain_is_ring(book, sources, xs):
                    self.assertEqual(made_ring(book, (sources, xs)), (sources, xs))
                else:
                    self.refused(BadRing, 0, made_ring, book, (sources, xs))


if __name__ == "__main__":
    unittest.main()
