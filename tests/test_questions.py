"""[51], [52], [53]: questions and their answers."""

import unittest
from random import Random
from time import perf_counter

from behindboth.errors import BadBook, BadData, BadLots, BadQuestion, TooMany
from behindboth.parts import part_of
from behindboth.questions import ask, ask_whole, made_question
from behindboth.whole import whole
from helpers import (
    AB_BC_CD, APART, F, ODD, TRIANGLE, TWELVE, Case, in_order, meeting, plain_lies, plain_shown, plain_whole,
    random_book, random_data,
)
from searches import bent, plain_hangs, plain_shared

DATA = (((5, 6),), ((6, 7), (9, 7)), ((7, 8),))
WHOLE = ((None, 1, 0), (0, 0, 0))
EXAMPLES = (
    (((), (0,), (), ()), ((0, 0, 0),)),
    (((), (), (0,), ((0, "blank", 0),)), ((None, 1, 0),)),
    (((1, 2), (), (), ((1, "is", 9),)), ((None, 1, 0),)),
    (((1, 2), (), (), ((0, "filled", 0),)), ()),
    (((), (), (), ()), WHOLE),
)


def only(tags, group):
    return tuple(tag if source in group else None for source, tag in enumerate(tags))


def plain_keeps(book, data, tags, question):
    _, wants, lacks, tests = question
    if [s for s in wants if tags[s] is None] or [s for s in lacks if tags[s] is not None]:
        return False
    worths = plain_shown(book, data, tags)
    for column, word, worth in tests:
        held = {"is": worths.get(column) == worth, "filled": column in worths, "blank": column not in worths}
        if not held[word]:
            return False
    return True


def plain_ask(book, data, question):
    """By a plain own look at all lots, of the sources of the group alone if there is one."""
    group = question[0] or tuple(range(len(book)))
    lots = plain_whole(book, tuple(rows if s in group else () for s, rows in enumerate(data)))
    return tuple(lot for lot in lots if plain_keeps(book, data, lot, question))


def plain_ask_whole(book, data, lots, question):
    if question[0]:
        pieces = set()
        for lot in lots:
            rest = {s for s in question[0] if lot[s] is not None}
            while rest:
                piece = {min(rest)}
                for _ in rest:
                    piece |= {s for s in rest if any(plain_shared(book, s, t) for t in piece)}
                pieces.add(only(lot, piece))
                rest -= piece
        lots = [one for one in pieces if not any(one != two and plain_lies(one, two) for two in pieces)]
    return tuple(sorted({lot for lot in lots if plain_keeps(book, data, lot, question)}, key=in_order))


def random_question(random, book, worths, kinds=("is", "filled", "blank")):
    groups = [tuple(s for s in range(len(book)) if random.random() < 0.6) for _ in range(4)]
    groups = [group for group in groups if group and plain_hangs(book, group)]
    of = random.choice(groups) if groups and random.random() < 0.5 else ()
    sources = of or tuple(range(len(book)))
    columns = sorted({c for scheme in book for c in scheme})
    wants, lacks = (tuple(s for s in sources if random.random() < 0.2) for _ in range(2))
    tests = []
    for _ in range(random.randint(0, 2)):
        word = random.choice(kinds)
        tests.append((random.choice(columns), word, random.randrange(worths) if word == "is" else 0))
    return of, wants, lacks, tuple(tests)


class Examples(Case):

    def test_the_examples(self):
        self.assertEqual(whole(AB_BC_CD, DATA), WHOLE)
        for question, wanted in EXAMPLES:
            self.assertIs(made_question(AB_BC_CD, question), question)
            self.assertEqual(ask(AB_BC_CD, DATA, question), wanted)
            self.assertEqual(ask_whole(AB_BC_CD, DATA, WHOLE, question), wanted)

    def test_arguments_by_name(self):
        question, wanted = EXAMPLES[0]
        self.assertEqual(made_question(book=AB_BC_CD, thing=question), question)
        self.assertEqual(ask(book=AB_BC_CD, data=DATA, question=question), wanted)
        self.assertEqual(ask_whole(book=AB_BC_CD, data=DATA, lots=WHOLE, question=question), wanted)

    def test_sources_that_are_wanted_and_lacked(self):
        self.assertEqual(ask(AB_BC_CD, DATA, ((), (1,), (1,), ())), ())

    def test_a_column_that_the_group_has_not(self):
        self.assertEqual(ask(AB_BC_CD, DATA, ((0, 1), (), (), ((3, "blank", 0),))), ((None, 1, None), (0, 0, None)))
        self.assertEqual(ask(AB_BC_CD, DATA, ((0, 1), (), (), ((3, "filled", 0),))), ())

    def test_each_kind_of_test(self):
        data = (((0, 1), (2, 3)), ((1, 0),), ())
        for test, wanted in (
            ((0, "is", 0), ((0, 0, None),)), ((0, "is", 2), ((1, None, None),)), ((0, "is", 1), ()),
            ((2, "filled", 0), ((0, 0, None),)), ((2, "blank", 0), ((1, None, None),)),
            ((3, "blank", 0), ((0, 0, None), (1, None, None))),
        ):
            self.assertEqual(ask(AB_BC_CD, data, ((), (), (), (test,))), wanted)


class Searches(Case):

    def test_ask_beside_a_plain_look(self):
        random = Random(51)
        answers = []
        rings = (TRIANGLE, APART, ((0, 1), (1, 2), (2, 3), (0, 3)))
        for round_number in range(400):
            book = rings[round_number % 6] if round_number % 6 < 3 else random_book(random, 4, 5, 3)
            data = random_data(random, book, 3, 3)
            question = random_question(random, book, 3)
            wanted = plain_ask(book, data, question)
            self.assertEqual(made_question(book, question), question)
            self.assertEqual(ask(book, data, question), wanted)
            self.assertEqual(ask_whole(book, data, whole(book, data), question), wanted)
            self.assertEqual(ask_whole(book, data, whole(book, data)[::-1] * 2, question), wanted)
            answers.append(len(wanted))
        self.assertGreater(len([many for many in answers if many]), 150)

    def test_ask_whole_of_any_tags(self):
        random = Random(52)
        for _ in range(400):
            book = random_book(random, 5, 6, 3)
            data = tuple(rows or (tuple(0 for _ in scheme),) for scheme, rows in
                         zip(book, random_data(random, book, 3, 2)))
            lots = []
            for _ in range(random.randint(0, 9)):
                tags = tuple(random.choice((None, random.randrange(len(rows)))) for rows in data)
                if tags != (None,) * len(book):
                    lots.append(tags)
            question = random_question(random, book, 2)
            self.assertEqual(
                ask_whole(book, data, tuple(lots), question), plain_ask_whole(book, data, lots, question),
            )

    def test_a_group_is_asked_as_its_part(self):
        random = Random(53)
        for _ in range(100):
            book = random_book(random, 5, 5, 3)
            data = random_data(random, book, 3, 2)
            for group in ((0,), tuple(range(len(book)))):
                if plain_hangs(book, group):
                    lots = whole(book, data)
                    self.assertEqual(ask(book, data, (group, (), (), ())), part_of(book, lots, group))


class Edges(Case):

    def test_eight_tests_and_nine(self):
        tests = ((0, "filled", 0),) * 8
        self.assertEqual(ask(AB_BC_CD, DATA, ((), (), (), tests)), ((0, 0, 0),))
        self.refused(BadQuestion, 3, made_question, AB_BC_CD, ((), (), (), tests + tests[:1]))

    def test_worths(self):
        data = (((0, 999999),), (), ())
        for worth, wanted in ((0, ()), (999999, ((0, None, None),))):
            self.assertEqual(ask(AB_BC_CD, data, ((), (), (), ((1, "is", worth),))), wanted)
        self.refused(BadQuestion, 3, made_question, AB_BC_CD, ((), (), (), ((1, "is", 1000000),)))
        self.refused(BadQuestion, 3, made_question, AB_BC_CD, ((), (), (), ((1, "is", -1),)))

    def test_one_source_and_twelve(self):
        self.assertEqual(ask(((0,),), (((1,), (2,)),), ((0,), (0,), (), ((0, "is", 2),))), ((1,),))
        every = tuple(range(12))
        data = ((),) * 11 + (((1, 2),),)
        self.assertEqual(ask(TWELVE, data, (every, (), every[:11], ())), ((None,) * 11 + (0,),))
        self.assertEqual(ask(TWELVE, data, (every, every, every, ())), ())

    def test_3000_lots_and_more(self):
        began = perf_counter()
        book, data = meeting((40, 25, 3))
        lots = whole(book, data)
        self.assertEqual(len(ask(book, data, ((), (0,), (), ((1, "filled", 0),)))), 3000)
        self.assertEqual(len(ask_whole(book, data, lots, ((0, 1), (), (), ((1, "is", 3),)))), 25)
        more = data[:2] + (data[2] + ((8, 0),),)
        for of in ((), (0,), (2,)):
            self.refused(TooMany, 3000, ask, book, more, (of, (), (), ()))
        self.assertEqual(len(ask_whole(book, more, lots, ((), (), (), ()))), 3000)
        self.assertLess(perf_counter() - began, 20)


class Refusals(Case):

    def test_questions(self):
        self.refused(BadBook, -1, made_question, (), None)
        for thing in (None, (), ((), (), ()), ((), (), (), (), ()), "rows", 4):
            self.refused(BadQuestion, -1, made_question, AB_BC_CD, thing)
        for of in (None, 0, (3,), (1, 0), (0, 0), (0, 2), (True,), ((),)):
            self.refused(BadQuestion, 0, made_question, AB_BC_CD, (of, None, None, None))
        for wants in (None, 0, (3,), (1, 0), (0, 0), (True,), (None,)):
            self.refused(BadQuestion, 1, made_question, AB_BC_CD, ((), wants, None, None))
            self.refused(BadQuestion, 2, made_question, AB_BC_CD, ((), (), wants, None))
        self.refused(BadQuestion, 1, made_question, AB_BC_CD, ((0, 1), (2,), (), ()))
        self.refused(BadQuestion, 2, made_question, AB_BC_CD, ((0, 1), (0, 1), (1, 2), ()))
        for test in (
            None, (), (0, "is"), (0, "is", 1, 1), (4, "is", 1), (-1, "is", 1), (True, "is", 1), (0, "is", True),
            (0, "is", None), (0, "was", 0), (0, "filled", 1), (0, "blank", 1), (0, "blank", False), ("0", "is", 1),
            (0, "filled", None), (0, 0, 0), (None, "blank", 0),
        ):
            self.refused(BadQuestion, 3, made_question, AB_BC_CD, ((), (), (), (test,)))
            self.refused(BadQuestion, 3, made_question, AB_BC_CD, ((0,), (0,), (0,), ((0, "is", 1), test)))
        self.refused(BadQuestion, 3, made_question, AB_BC_CD, ((), (), (), None))
        self.assertEqual(made_question(((0, 7),), ((), (), (), ((7, "is", 1),))), ((), (), (), ((7, "is", 1),)))
        self.refused(BadQuestion, 3, made_question, ((0, 7),), ((), (), (), ((1, "is", 1),)))

    def test_bent_questions(self):
        question = ((0, 1), (0,), (0, 1), ((0, "is", 1), (2, "blank", 0)))
        fine = 0
        for thing in bent(question):
            try:
                self.assertEqual(made_question(F, thing), thing)
                fine += 1
            except BadQuestion as error:
                self.assertIn(error.what, (-1, 0, 1, 2, 3))
        self.assertGreater(fine, 5)

    def test_order_of_refusals(self):
        for function, rest in ((ask, ()), (ask_whole, (None,))):
            self.refused(BadBook, -1, function, (), None, *rest, None)
            self.refused(BadData, -1, function, AB_BC_CD, None, *rest, None)
            self.refused(BadData, (0, 0), function, AB_BC_CD, ((None,), (), ()), *rest, None)
        self.refused(BadQuestion, -1, ask, *meeting((40, 40, 40)), None)
        self.refused(BadLots, -1, ask_whole, AB_BC_CD, DATA, None, None)
        self.refused(BadLots, 1, ask_whole, AB_BC_CD, DATA, ((7, 7, 7), (None, None, None)), None)
        self.refused(BadLots, 0, ask_whole, AB_BC_CD, DATA, ((0, 2, 0), (0, 0, 7)), None)
        self.refused(BadLots, 1, ask_whole, AB_BC_CD, DATA, ((0, 1, 0), (0, 0, 1)), None)
        self.refused(BadLots, 0, ask_whole, AB_BC_CD, DATA, ((0, 1000000, 0),), None)
        self.refused(BadLots, 0, ask_whole, AB_BC_CD, DATA, ((0, False, 0),), None)
        self.refused(BadQuestion, 0, ask_whole, AB_BC_CD, DATA, WHOLE, (None, (), (), ()))

    def test_odd_values(self):
        for thing in ODD:
            self.assertRaises(BadBook, made_question, thing, thing)
            self.assertRaises(BadBook, ask, thing, (), thing)
            self.refused(BadQuestion, -1, made_question, F, thing)
            self.refused(BadQuestion, 3, made_question, F, ((), (), (), (thing, thing)))
            self.refused(BadQuestion, 3, made_question, F, ((), (), (), ((0, "is", ()), thing)))
            self.refused(BadLots, 0, ask_whole, F, ((),) * 4, (thing,), thing)
            if thing != ():
                self.refused(BadQuestion, 1, made_question, F, ((), thing, (), ()))
                self.refused(BadQuestion, 0, made_question, F, (thing, thing, (), ()))


if __name__ == "__main__":
    unittest.main()
