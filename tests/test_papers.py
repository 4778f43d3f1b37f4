"""[24], [25]: spoilt data."""

import unittest
from random import Random

from behindboth.data import made_data
from behindboth.errors import Apart, BadBook, BadPaper, BadPlan, Lacking, Twice
from behindboth.judge import judged
from behindboth.papers import spoilt
from behindboth.running import run
from helpers import (
    AB_BC_CD, APART, F, ODD, TRIANGLE, TWELVE, Case, plain_is_lot, plain_whole, random_plan, random_rule,
)
from searches import all_plans, bent, joined_book, plain_right, plain_wrong, right_book, ring_book

ABX = ((0, 1, 2), (0, 1, 3), (0, 4))
UNLIKE = ("unlike", 1, 2, 1, 1, (2, 0), (1,))
YES = (((), True),)


def plain_spoilt(book, paper):
    """The data that [24] tells, by its words."""
    ways = paper[2] if paper[0] == "apart" else paper[5] + paper[6]
    data = []
    for source, scheme in enumerate(book):
        row = [0] * len(scheme)
        if paper[0] == "unlike" and source in paper[6] and paper[4] in scheme:
            row[scheme.index(paper[4])] = 1
        data.append((tuple(row),) if source in ways else ())
    ends = (ways[0], ways[-1]) if paper[0] == "apart" else paper[2:4]
    return (tuple(data), *ends)


class Examples(Case):

    def test_apart(self):
        rows = (((0, 0),), ((0, 0),), ((0, 0),))
        self.assertEqual(spoilt(AB_BC_CD, ((0, 2), 1), ("apart", 1, (0, 1, 2))), (rows, 0, 2))
        self.assertEqual(spoilt(AB_BC_CD, ((0, 2), 1), ("apart", 1, (2, 1, 0))), (rows, 2, 0))
        self.assertEqual(spoilt(book=AB_BC_CD, plan=(1, (0, 2)), paper=("apart", 1, (0, 1, 2))), (rows, 0, 2))

    def test_unlike(self):
        self.assertEqual(spoilt(ABX, ((0, 2), 1), UNLIKE), ((((0, 0, 0),), ((0, 1, 0),), ((0, 0),)), 2, 1))

    def test_no_rows_elsewhere(self):
        book = AB_BC_CD + ((3, 4),)
        data, one, two = spoilt(book, (((0, 2), 1), 3), ("apart", 1, (0, 1, 2)))
        self.assertEqual((data, one, two), ((((0, 0),), ((0, 0),), ((0, 0),), ()), 0, 2))


class Searches(Case):

    def look_at(self, random, book, plan, paper):
        data, one, two = spoilt(book, plan, paper)
        self.assertEqual((data, one, two), plain_spoilt(book, paper))
        self.assertEqual(made_data(book, data), data)
        # Each source has one row at most, so all rows that are in one lot of the whole are in the only lot of both.
        tags = tuple(0 if rows else None for rows in data)
        if paper[0] == "apart":
            self.assertTrue(plain_is_lot(book, data, tags))
        lots = [lot for lot in plain_whole(book, data) if lot[one] == 0 and lot[two] == 0]
        self.assertTrue(lots)
        for rule in ((), YES, *[random_rule(random, 6, 2) for _ in range(4)]):
            rows = run(book, data, plan, rule)
            self.assertEqual([row for row in rows if row[one] == 0 and row[two] == 0], [])
            self.assertFalse(set(lots) & set(rows))

    def test_small_books(self):
        random = Random(240)
        words = []
        for round_number in range(60):
            if round_number % 3:
                book = joined_book(random, 4, random.choice((3, 5)), 3)
            else:
                book = ring_book(random, 4, 3 + round_number % 2)
            for plan in all_plans(tuple(range(len(book)))):
                if random.random() < 0.3 and not plain_right(book, plan):
                    paper = judged(book, plan)
                    words.append(paper[0])
                    self.look_at(random, book, plan, paper)
        self.assertGreater(words.count("apart"), 50)
        self.assertGreater(words.count("unlike"), 50)

    def test_larger_books(self):
        random = Random(241)
        words = []
        for round_number in range(80):
            many = random.randint(5, 9)
            book = right_book(random, many) if round_number % 2 else ring_book(random, many, random.randint(3, many))
            plan = random_plan(random, random.sample(range(many), many))
            paper = judged(book, plan)
            if paper[0] != "right":
                words.append(paper[0])
                self.look_at(random, book, plan, paper)
        self.assertEqual(sorted(set(words)), ["apart", "unlike"])

    def test_every_paper_that_is_let(self):
        """Not only those that judged tells: all that come of them if they are bent."""
        random = Random(242)
        for book, plan, paper in (
            (ABX, ((0, 2), 1), UNLIKE), (AB_BC_CD, ((0, 2), 1), ("apart", 1, (0, 1, 2))),
            (F, (((0, 1), 2), 3), judged(F, (((0, 1), 2), 3))), (TRIANGLE, (0, (1, 2)), judged(TRIANGLE, (0, (1, 2)))),
            (TWELVE[:5], (((0, 3), (2, 1)), 4), judged(TWELVE[:5], (((0, 3), (2, 1)), 4))),
        ):
            for thing in bent(paper):
                if plain_wrong(book, plan, thing):
                    self.look_at(random, book, plan, thing)
                else:
                    self.refused(BadPaper, 0, spoilt, book, plan, thing)


class Refusals(Case):

    def test_order_of_refusals(self):
        self.refused(BadBook, -1, spoilt, (), None, None)
        self.refused(BadBook, 0, spoilt, ((),), None, None)
        self.refused(Apart, 2, spoilt, APART, None, None)
        self.refused(BadPlan, -1, spoilt, ABX, (0, (1, 3)), None)
        self.refused(Twice, 0, spoilt, ABX, ((0, 0), 1), None)
        self.refused(Lacking, 0, spoilt, ABX, (1, 2), UNLIKE)
        self.refused(BadPaper, 0, spoilt, ABX, ((0, 2), 1), None)

    def test_columns_of_a_right_plan(self):
        for book, plan in ((AB_BC_CD, ((0, 1), 2)), (F, ((0, 1), (2, 3))), (((0,),), 0)):
            told = judged(book, plan)
            self.assertEqual(told[0], "right")
            self.refused(BadPaper, 0, spoilt, book, plan, told)
            self.refused(BadPaper, 0, spoilt, book, plan, told[1])
        self.refused(BadPaper, 0, spoilt, AB_BC_CD, ((0, 2), 1), ("right", ((1,), (2,))))

    def test_a_paper_of_another_plan(self):
        self.refused(BadPaper, 0, spoilt, AB_BC_CD, ((0, 1), 2), ("apart", 1, (0, 1, 2)))
        self.refused(BadPaper, 0, spoilt, ABX, ((0, 1), 2), UNLIKE)
        self.refused(BadPaper, 0, spoilt, ABX, ((1, 2), 0), UNLIKE)
        self.refused(BadPaper, 0, spoilt, ABX, (1, (0, 2)), UNLIKE)
        self.refused(BadPaper, 0, spoilt, ABX, ((0, 2), 1), ("apart", 1, (0, 1, 2)))

    def test_odd_papers(self):
        for thing in ODD:
            self.refused(BadPaper, 0, spoilt, ABX, ((0, 2), 1), thing)
            self.refused(BadPaper, 0, spoilt, ABX, ((0, 2), 1), UNLIKE[:5] + (thing, (1,)))
            self.refused(BadPaper, 0, spoilt, AB_BC_CD, ((0, 2), 1), ("apart", 1, thing))
            self.refused(BadPaper, 0, spoilt, AB_BC_CD, ((0, 2), 1), (thing, 1, (0, 1, 2)))


if __name__ == "__main__":
    unittest.main()
