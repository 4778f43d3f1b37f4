"""[59]: rules of blanks as texts."""

import unittest
from random import Random

from behindboth.errors import BadHouse, BadRule, BadText, NoName
from behindboth.rules import made_rule
from behindboth.ruletexts import print_rule, read_rule
from helpers import ODD, Case
from texts import house_rule, own_text, random_house, rule_slots, words_of

HOUSE = (("id", "name", "day", "word"), (("people", (0, 1)), ("calls", (0, 2)), ("days", (2, 3))))
EACH = (
    (("fork", 99), "fork 99"), (("fork", 0), "fork 0"), (("left", 0), "left id"), (("right", 3), "right word"),
    (("both", 1), "both name"), (("none", 2), "none day"), (("worth", 2, 999999), "worth day 999999"),
    (("least", 0), "least 0"), (("least", 99), "least 99"),
)


class Rules(Case):

    def test_the_examples(self):
        rule = (((("left", 2), ("least", 1)), True), ((), False))
        self.assertEqual(read_rule(HOUSE, "yes if left day and least 1; no"), rule)
        self.assertEqual(print_rule(HOUSE, rule), "yes if left day and least 1; no")
        self.assertEqual(read_rule(house=HOUSE, text=""), ())
        self.assertEqual(print_rule(house=HOUSE, rule=()), "")
        self.assertEqual(read_rule(HOUSE, "   "), ())

    def test_each_condition(self):
        for condition, text in EACH:
            rule = (((condition,), False),)
            self.assertEqual(read_rule(HOUSE, f"no if {text}"), rule)
            self.assertEqual(print_rule(HOUSE, rule), f"no if {text}")
            self.assertEqual(made_rule(read_rule(HOUSE, f"no if {text}")), rule)

    def test_answers_are_bools(self):
        self.assertEqual(repr(read_rule(HOUSE, "yes;no")), "(((), True), ((), False))")

    def test_20_rows_and_21(self):
        text = "; ".join(["yes", "no"] * 10)
        self.assertEqual(read_rule(HOUSE, text), (((), True), ((), False)) * 10)
        self.assertEqual(print_rule(HOUSE, (((), True), ((), False)) * 10), text)
        # A further row cannot stand: its first word is its answer.
        self.refused(BadText, len(text) + 2, read_rule, HOUSE, text + "; yes")
        self.refused(BadText, len(text) + 1, read_rule, HOUSE, text + ";")

    def test_6_conditions_and_7(self):
        text = "yes if " + " and ".join(["least 1"] * 6)
        self.assertEqual(read_rule(HOUSE, text), (((("least", 1),) * 6, True),))
        self.assertEqual(print_rule(HOUSE, (((("least", 1),) * 6, True),)), text)
        self.refused(BadText, len(text) + 5, read_rule, HOUSE, text + " and least 1")
        self.refused(BadText, len(text) + 4, read_rule, HOUSE, text + " and")
        self.assertEqual(len(read_rule(HOUSE, f"{text}; {text}")), 2)

    def test_99_and_100(self):
        for word in ("fork", "least"):
            self.assertEqual(read_rule(HOUSE, f"no if {word} 99"), ((((word, 99),), False),))
            self.refused(BadText, 7 + len(word), read_rule, HOUSE, f"no if {word} 100")
            self.refused(BadText, 7 + len(word), read_rule, HOUSE, f"no if {word} 00")

    def test_first_wrong_words(self):
        for text, place in (
            ("maybe", 0), ("if", 0), ("yes no", 4), ("yes;", 4), ("yes if", 6), ("yes if;", 6), ("yes if day", 7),
            ("yes if left", 11), ("yes if left 3", 12), ("yes if left day and", 19), ("yes if left day least 1", 16),
            ("yes if left day, least 1", 15), ("yes if worth day", 16), ("yes if worth day id", 17), ("yes;;no", 4),
            ("yes if fork day", 12), ("yes and left day", 4), ("true", 0), ("yes if left with", 12),
            ("yes if not left day", 7),
        ):
            self.refused(BadText, place, read_rule, HOUSE, text)
        self.refused(NoName, 12, read_rule, HOUSE, "yes if left people")
        self.refused(NoName, 13, read_rule, HOUSE, "yes if worth people Q")
        self.refused(NoName, 12, read_rule, HOUSE, "yes if left and least 1")

    def test_columns_that_are_called_as_words_of_the_texts(self):
        house = (("and", "if", "left", "fork"), (("yes", (0, 1, 2, 3)),))
        text = "no if left and and worth if 5 and left left; yes if none fork and fork 7"
        rule = (
            ((("left", 0), ("worth", 1, 5), ("left", 2)), False), ((("none", 3), ("fork", 7)), True),
        )
        self.assertEqual(read_rule(house, text), rule)
        self.assertEqual(print_rule(house, rule), text)

    def test_drawn_rules(self):
        random = Random(59)
        for _ in range(300):
            house = random_house(random)
            rule = house_rule(random, house)
            text = own_text(words_of(rule_slots(house, rule)))
            self.assertEqual(print_rule(house, rule), text)
            self.assertEqual(read_rule(house, text), rule)

    def test_what_is_no_rule_of_the_house(self):
        self.refused(BadHouse, -1, print_rule, None, None)
        self.refused(BadRule, -1, print_rule, HOUSE, None)
        self.refused(BadRule, 1, print_rule, HOUSE, (((("left", 4),), True), ((), 1)))
        for word in ("left", "right", "both", "none"):
            rows = (((), True), (((word, 3), (word, 4)), False), (((word, 9),), True))
            self.refused(BadRule, 1, print_rule, HOUSE, rows)
            self.refused(BadRule, 0, print_rule, HOUSE, ((((word, 23),), True),))
        self.refused(BadRule, 0, print_rule, HOUSE, (((("worth", 4, 0),), True),))
        self.refused(BadRule, 0, print_rule, HOUSE, (((("left", 24),), True),))
        self.assertEqual(print_rule(HOUSE, (((("fork", 24), ("least", 99), ("worth", 3, 99)), True),)),
                         "yes if fork 24 and least 99 and worth word 99")
        for thing in ODD:
            if thing != ():
                self.assertRaises(BadRule, print_rule, HOUSE, thing)


if __name__ == "__main__":
    unittest.main()
