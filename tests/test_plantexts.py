"""[57], [58]: plans and orders of sources as texts."""

import unittest
from random import Random

from behindboth.errors import BadHouse, BadOrder, BadPlan, BadText, Lacking, NoName, Twice
from behindboth.plantexts import print_order, print_plan, read_order, read_plan
from behindboth.plans import plan_of
from helpers import ODD, Case
from texts import order_slots, own_text, plan_slots, random_house, whole_plan, words_of

HOUSE = (("id", "name", "day", "word"), (("people", (0, 1)), ("calls", (0, 2)), ("days", (2, 3))))
PAIR = (("a",), (("one", (0,)), ("two", (0,))))
APART = (("a", "b"), (("one", (0,)), ("two", (1,))))
TWELVE = (("a",), tuple((f"s{k}", (0,)) for k in range(12)))


class Plans(Case):

    def test_the_examples(self):
        self.assertEqual(read_plan(HOUSE, "((people calls) days)"), ((0, 1), 2))
        self.assertEqual(print_plan(HOUSE, ((0, 1), 2)), "((people calls) days)")
        self.refused(NoName, 9, read_plan, HOUSE, "((people cals) days)")
        self.refused(Twice, 8, read_plan, HOUSE, "(people people")
        self.refused(Lacking, 2, read_plan, HOUSE, "(people calls)")
        self.assertEqual(read_plan(house=HOUSE, text="(days(people calls))"), (2, (0, 1)))
        self.assertEqual(print_plan(house=HOUSE, plan=(2, (0, 1))), "(days (people calls))")

    def test_lacking_is_asked_behind_all_words(self):
        for text, source in (("days", 0), ("people", 1), ("(people days)", 1), ("(calls days)", 0), (" calls ", 0)):
            self.refused(Lacking, source, read_plan, HOUSE, text)
        self.refused(BadText, 7, read_plan, HOUSE, "people days")
        self.refused(BadText, 14, read_plan, HOUSE, "(people days) days")
        self.refused(BadText, 12, read_plan, HOUSE, "(people days")

    def test_one_source(self):
        house = (("a",), (("a", (0,)),))
        self.assertEqual(read_plan(house, "a"), 0)
        self.assertEqual(print_plan(house, 0), "a")
        self.refused(BadText, 2, read_plan, house, "(a)")
        self.refused(Twice, 3, read_plan, house, "(a a)")

    def test_first_wrong_words(self):
        for text, place in (
            ("", 0), ("()", 1), (")", 0), ("(one", 4), ("(one)", 4), ("(one two", 8), ("(one two))", 9),
            ("(one, two)", 4), ("(one two one)", 9), ("one two", 4), ("(with two)", 1), ("(one 1)", 5),
            ("((one two)", 10),
        ):
            self.refused(BadText, place, read_plan, PAIR, text)

    def test_11_brackets_and_12(self):
        plan = plan_of(tuple(range(12)))
        text = print_plan(TWELVE, plan)
        self.assertEqual(text[:13], "(((((((((((s0")
        self.assertEqual(read_plan(TWELVE, text), plan)
        self.refused(BadText, 11, read_plan, TWELVE, "(" + text)
        self.refused(BadText, 11, read_plan, TWELVE, "(" * 12)
        self.refused(BadText, 12, read_plan, TWELVE, "(" * 11 + " (with")
        # Brackets that are closed again do not count.
        self.assertEqual(
            read_plan(TWELVE, "((s0 s1) ((s2 s3) ((s4 s5) ((s6 s7) ((s8 s9) (s10 s11))))))"),
            ((0, 1), ((2, 3), ((4, 5), ((6, 7), ((8, 9), (10, 11)))))),
        )
        right = plan_of((11,))
        for source in range(10, -1, -1):
            right = (source, right)
        self.assertEqual(read_plan(TWELVE, print_plan(TWELVE, right)), right)

    def test_drawn_plans(self):
        random = Random(57)
        for _ in range(200):
            house = random_house(random, 12)
            plan = whole_plan(random, house)
            text = own_text(words_of(plan_slots(house, plan)))
            self.assertEqual(print_plan(house, plan), text)
            self.assertEqual(read_plan(house, text), plan)

    def test_books_that_do_not_hang_together(self):
        self.assertEqual(read_plan(APART, "(two one)"), (1, 0))
        self.assertEqual(print_plan(APART, (1, 0)), "(two one)")

    def test_what_is_no_plan(self):
        self.refused(BadHouse, -1, print_plan, None, None)
        self.refused(BadPlan, -1, print_plan, HOUSE, None)
        self.refused(BadPlan, -1, print_plan, HOUSE, (0, 3))
        self.refused(Twice, 0, print_plan, HOUSE, ((0, 1), 0))
        self.refused(Lacking, 2, print_plan, HOUSE, (0, 1))
        for thing in ODD:
            if repr(thing) not in ("0", "1", "(0, 0)", "(1, 0)"):
                self.assertRaises((BadPlan, Twice), print_plan, HOUSE, thing)


class Orders(Case):

    def test_the_examples(self):
        self.assertEqual(read_order(HOUSE, "people, calls, days"), (0, 1, 2))
        self.assertEqual(print_order(HOUSE, (0, 1, 2)), "people, calls, days")
        self.assertEqual(read_order(house=HOUSE, text=" days,calls ,people"), (2, 1, 0))
        self.assertEqual(print_order(house=HOUSE, order=(2, 1, 0)), "days, calls, people")

    def test_no_name_twice_and_lacking(self):
        self.refused(NoName, 8, read_order, HOUSE, "people, cals, days")
        self.refused(Twice, 15, read_order, HOUSE, "people, calls, people")
        self.refused(Twice, 8, read_order, HOUSE, "people, people, Q")
        self.refused(Lacking, 2, read_order, HOUSE, "people, calls")
        self.refused(Lacking, 0, read_order, HOUSE, "days")
        self.refused(Lacking, 1, read_order, HOUSE, "days, people")

    def test_first_wrong_words(self):
        for text, place in (
            ("", 0), (",", 0), ("one,", 4), ("one two", 4), ("one, two,", 9), ("one,, two", 4), ("(one two)", 0),
            ("one, with", 5), ("one, 2", 5), ("one; two", 3), ("one, two two", 9),
        ):
            self.refused(BadText, place, read_order, PAIR, text)

    def test_one_source_twelve_and_one_more(self):
        self.assertEqual(read_order((("a",), (("a", (0,)),)), "a"), (0,))
        every = ", ".join(f"s{k}" for k in range(12))
        self.assertEqual(read_order(TWELVE, every), tuple(range(12)))
        self.assertEqual(print_order(TWELVE, tuple(range(12))), every)
        self.refused(Twice, len(every) + 2, read_order, TWELVE, every + ", s3")
        self.refused(NoName, len(every) + 2, read_order, TWELVE, every + ", s12")

    def test_books_that_do_not_hang_together(self):
        self.assertEqual(read_order(APART, "two, one"), (1, 0))
        self.assertEqual(print_order(APART, (1, 0)), "two, one")

    def test_drawn_orders(self):
        random = Random(58)
        for _ in range(200):
            house = random_house(random, 12)
            order = tuple(random.sample(range(len(house[1])), len(house[1])))
            text = own_text(words_of(order_slots(house, order)))
            self.assertEqual(print_order(house, order), text)
            self.assertEqual(read_order(house, text), order)

    def test_what_is_no_order(self):
        self.refused(BadHouse, -1, print_order, None, None)
        for thing in (
            (), (0, 1), (0, 1, 1), (0, 1, 3), (0, 1, 2, 3), (0, True, 2), (0, 1, None), ((0, 1, 2),), *ODD,
        ):
            self.refused(BadOrder, -1, print_order, HOUSE, thing)


if __name__ == "__main__":
    unittest.main()
