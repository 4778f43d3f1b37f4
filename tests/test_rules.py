"""[13], [14], [15]: rules of blanks, their answers, and who is paired."""

import unittest
from random import Random

from behindboth.errors import BadBook, BadRule
from behindboth.rules import answer, is_rule, made_rule, says
from helpers import ODD, Case, plain_answer, plain_says, random_rule

YES = (((), True),)
LEFT = ((0, 5), (2, 6), (4, 7))
RIGHT = ((2, 6), (3, 9))
GOOD_CONDITIONS = (
    ("fork", 0), ("fork", 99), ("least", 0), ("least", 99), ("left", 0), ("left", 23), ("right", 0), ("right", 23),
    ("both", 0), ("both", 23), ("none", 0), ("none", 23), ("worth", 0, 0), ("worth", 23, 999999),
)
BAD_CONDITIONS = (
    None, True, 0, "", "fork", (), ("fork",), ("fork", -1), ("fork", 100), ("fork", True), ("fork", None),
    ("fork", "0"),
    ("fork", 0, 0), ("least", -1), ("least", 100), ("least", False), ("least", 1, 1), ("left", 24), ("left", -1),
    ("left", True), ("left", 0, 0), ("left",), ("right", 24), ("right", None), ("both", 24), ("both", (0,)),
    ("none", 24), ("none", -1), ("worth", 0), ("worth", 24, 0), ("worth", 0, 1000000), ("worth", 0, -1),
    ("worth", True, 0), ("worth", 0, True), ("worth", 0, 0, 0), ("most", 0), ("Fork", 0), ("", 0), (0, "fork"),
    (None, 0), (("fork",), 0), (True, 0), "ab", ("fork", 10 ** 999), (0,) * 99999, ("worth",) * 99999,
)


class Rules(Case):

    def test_good_rules(self):
        rules = ((), YES, (((), False),) * 20, ((GOOD_CONDITIONS[:6], True), (GOOD_CONDITIONS[8:], False)))
        for rule in rules + tuple((((condition,), False),) for condition in GOOD_CONDITIONS):
            self.assertEqual(made_rule(rule), rule)
            self.is_bool(True, is_rule(rule))
        self.assertEqual(made_rule(thing=YES), YES)

    def test_no_tuple_or_too_many_rows(self):
        for thing in (None, True, 0, "", "rule", YES * 21, (None,) * 21, (0,) * 99999):
            self.refused(BadRule, -1, made_rule, thing)
            self.is_bool(False, is_rule(thing))

    def test_the_first_row_that_is_none(self):
        fork = ("fork", 0)
        rows = (
            None, 0, True, "", (), ((),), ((), True, True), ((), 1), ((), 0), ((), None), ((), "yes"), (None, True),
            ("", True), (True, ()), (fork, True), ((fork,) * 7, True), ((fork,) * 99999, True), ((), (True,)),
        ) + tuple(((condition,), True) for condition in BAD_CONDITIONS)
        for row in rows + tuple(((fork, condition), False) for condition in BAD_CONDITIONS):
            self.refused(BadRule, 0, made_rule, (row,))
            self.refused(BadRule, 2, made_rule, YES * 2 + (row, None))
            self.refused(BadRule, 19, made_rule, YES * 19 + (row,))
            self.is_bool(False, is_rule((row,)))

    def test_judge_of_odd_values(self):
        for thing in ODD:
            self.is_bool(thing == (), is_rule(thing))
            self.is_bool(False, is_rule((thing,)))
            self.is_bool(False, is_rule(((thing, True), thing)))
            self.is_bool(thing == ("fork", 0), is_rule((((thing,), True),)))
            self.is_bool(False, is_rule(((((thing, 0),), True),)))
            self.is_bool(False, is_rule((((("worth", thing, thing, thing),), True),)))


class Answers(Case):

    def answers(self, condition, left=LEFT, right=RIGHT, fork=1):
        told = answer((((condition,), True),), fork, left, right)
        self.assertIs(answer((((condition,), False), ((), True)), fork, left, right), not told)
        return told

    def test_each_kind_of_condition(self):
        wanted = (
            (("fork", 1), True), (("fork", 0), False), (("left", 0), True), (("left", 3), False), (("left", 2), True),
            (("right", 3), True), (("right", 0), False), (("both", 2), True), (("both", 0), False),
            (("both", 3), False),
            (("both", 9), False), (("none", 9), True), (("none", 0), False), (("none", 3), False), (("none", 2), False),
            (("worth", 0, 5), True), (("worth", 0, 6), False), (("worth", 3, 9), True), (("worth", 2, 6), True),
            (("worth", 9, 0), False), (("least", 0), True), (("least", 1), True), (("least", 2), False),
        )
        for condition, told in wanted:
            self.is_bool(told, self.answers(condition))

    def test_worth_of_one_row_at_least(self):
        self.is_bool(True, self.answers(("worth", 0, 1), ((0, 1),), ((0, 2),)))
        self.is_bool(True, self.answers(("worth", 0, 2), ((0, 1),), ((0, 2),)))
        self.is_bool(True, self.answers(("worth", 0, 0), (), ((0, 0),)))
        self.is_bool(False, self.answers(("worth", 0, 0), (), ()))

    def test_all_conditions_of_the_first_row(self):
        rule = (
            ((("left", 0), ("right", 0)), True), ((("fork", 3),), False), ((("left", 0), ("worth", 3, 9)), True),
            ((), False),
        )
        self.is_bool(True, answer(rule, 1, LEFT, RIGHT))
        self.is_bool(False, answer(rule, 3, LEFT, RIGHT))
        self.is_bool(False, answer(rule, 1, LEFT, ()))
        self.is_bool(True, answer(rule=rule, fork=3, left=((0, 1),), right=((0, 1),)))

    def test_no_row_at_all(self):
        self.is_bool(False, answer((), 0, LEFT, RIGHT))
        self.is_bool(True, answer(YES, 0, (), ()))
        self.is_bool(False, answer(((((("least", 1),), True),)), 0, (), ()))

    def test_refused(self):
        self.refused(BadRule, -1, answer, None, 0, (), ())
        self.refused(BadRule, 1, answer, YES + (((), 1),), 0, (), ())

    def test_beside_a_plain_look(self):
        random = Random(14)
        for _ in range(500):
            rule = random_rule(random, 5, 3)
            left = tuple((c, random.randrange(3)) for c in range(5) if random.random() < 0.6)
            right = tuple((c, random.randrange(3)) for c in range(5) if random.random() < 0.6)
            fork = random.randrange(4)
            self.is_bool(plain_answer(rule, fork, dict(left), dict(right)), answer(rule, fork, left, right))


class Says(Case):
    BOOK = ((0, 1, 3), (1, 3, 7))

    def test_unequal_worths(self):
        self.is_bool(False, says(self.BOOK, YES, 0, (1, 3), (5, 1, 2, None), (None, 1, 3, 7)))
        self.is_bool(False, says(self.BOOK, YES, 0, (1, 3), (5, 1, None, None), (None, 2, 3, 7)))

    def test_no_column_filled_in_both(self):
        self.is_bool(False, says(self.BOOK, YES, 0, (1, 3), (5, 1, None, None), (None, None, 3, 7)))
        self.is_bool(False, says(((0,), (1,)), YES, 0, (), (5, None), (None, 5)))

    def test_all_filled_in_both(self):
        self.is_bool(True, says(self.BOOK, (), 0, (1, 3), (5, 1, 2, None), (None, 1, 2, 7)))
        self.is_bool(True, says(self.BOOK, (((), False),), 0, (1, 3), (5, 1, 2, None), (None, 1, 2, 7)))

    def test_in_between_the_rule_answers(self):
        one, two = (5, 1, None, None), (None, 1, 2, 7)
        self.is_bool(True, says(self.BOOK, YES, 0, (1, 3), one, two))
        self.is_bool(False, says(self.BOOK, (), 0, (1, 3), one, two))
        rule = (((("fork", 2), ("left", 0), ("right", 3), ("both", 1), ("worth", 7, 7), ("least", 1)), True),)
        self.is_bool(True, says(self.BOOK, rule, 2, (1, 3), one, two))
        self.is_bool(False, says(self.BOOK, rule, 1, (1, 3), one, two))
        self.is_bool(False, says(book=self.BOOK, rule=rule, fork=2, z=(1, 3), one=two, two=one))

    def test_zero_is_filled(self):
        self.is_bool(True, says(self.BOOK, (), 0, (1, 3), (0, 0, 0, None), (None, 0, 0, 0)))

    def test_order_of_refusals(self):
        self.refused(BadBook, -1, says, (), None, 0, (), (), ())
        self.refused(BadRule, -1, says, self.BOOK, None, 0, (), (), ())
        self.refused(BadRule, 0, says, self.BOOK, (((), 0),), 0, (), (None,) * 4, (None,) * 4)

    def test_beside_a_plain_look(self):
        random = Random(15)
        book = ((0, 1, 2, 5), (1, 2, 5, 9), (2, 9))
        for _ in range(500):
            rule = random_rule(random, 10, 2)
            one = tuple(random.choice((None, 0, 0, 1)) for _ in range(4)) + (None,)
            two = (None,) + tuple(random.choice((None, 0, 0, 1)) for _ in range(4))
            left, right = ({c: w for c, w in zip((0, 1, 2, 5, 9), row) if w is not None} for row in (one, two))
            told = plain_says(rule, 1, (1, 2, 5), left, right)
            self.is_bool(told, says(book, rule, 1, (1, 2, 5), one, two))


if __name__ == "__main__":
    unittest.main()
