"""[61], [64]: questions and lots as texts."""

import unittest
from random import Random

from behindboth.data import shown
from behindboth.errors import Apart, BadHouse, BadLots, BadQuestion, BadText, NoName, Twice
from behindboth.questions import made_question
from behindboth.questiontexts import print_lots, print_question, read_question
from behindboth.whole import whole
from helpers import ODD, Case, random_data
from searches import bent
from texts import house_question, own_book, own_text, question_slots, random_house, source_names, words_of

HOUSE = (("id", "name", "day", "word"), (("people", (0, 1)), ("calls", (0, 2)), ("days", (2, 3))))
LOT = ((0, 0, None), (1, 10, 5, None))


def own_lots(house, lots):
    texts = []
    for tags, row in lots:
        told = " ".join(f"{name} {tag}" for name, tag in zip(source_names(house), tags) if tag is not None)
        texts.append(told + ":" + "".join(" -" if worth is None else f" {worth}" for worth in row))
    return " | ".join(texts) or "none"


class Questions(Case):

    def test_the_examples(self):
        for text, question in (
            ("rows", ((), (), (), ())),
            ("rows of people calls with calls where day = 5 and name blank",
             ((0, 1), (1,), (), ((2, "is", 5), (1, "blank", 0)))),
        ):
            self.assertEqual(read_question(HOUSE, text), question)
            self.assertEqual(print_question(HOUSE, question), text)
        self.refused(Apart, 2, read_question, HOUSE, "rows of people days")
        self.refused(BadText, 20, read_question, HOUSE, "rows of people with calls")
        self.assertEqual(read_question(house=HOUSE, text=" rows "), ((), (), (), ()))
        self.assertEqual(print_question(house=HOUSE, question=((), (), (0,), ())), "rows without people")

    def test_names_in_any_order(self):
        text = "rows of days calls people with days people without calls people where word filled and id = 0"
        question = ((0, 1, 2), (0, 2), (0, 1), ((3, "filled", 0), (0, "is", 0)))
        self.assertEqual(read_question(HOUSE, text), question)
        self.assertEqual(
            print_question(HOUSE, question),
            "rows of people calls days with people days without people calls where word filled and id = 0",
        )

    def test_each_part_or_not(self):
        for number in range(16):
            parts = (" of calls days", " with days", " without calls", " where day filled")
            text = "rows" + "".join(part for at, part in enumerate(parts) if number >> at & 1)
            question = (
                (1, 2) if number & 1 else (), (2,) if number & 2 else (), (1,) if number & 4 else (),
                ((2, "filled", 0),) if number & 8 else (),
            )
            self.assertEqual(read_question(HOUSE, text), question)
            self.assertEqual(print_question(HOUSE, question), text)
            self.assertEqual(made_question(own_book(HOUSE), question), question)

    def test_questions_about_names(self):
        for text, error, what in (
            ("rows of id", NoName, 8), ("rows of people people", Twice, 15), ("rows of people days calls days", Twice, 26),
            ("rows with calls calls", Twice, 16), ("rows without days with", BadText, 18), ("rows where people", NoName, 11),
            ("rows of people with people calls", BadText, 27), ("rows of people without name", NoName, 23),
            ("rows of people with people people", Twice, 27), ("rows of people without calls", BadText, 23),
            ("rows with days without days calls days", Twice, 34), ("rows of people with calls calls", BadText, 20),
        ):
            self.refused(error, what, read_question, HOUSE, text)
        self.assertEqual(read_question(HOUSE, "rows with days without days"), ((), (2,), (2,), ()))

    def test_apart_is_asked_ahead_of_the_next_word(self):
        for behind in ("", " Q", " with id", " with calls", " :", " where", " 7", " of", " with with"):
            if behind == " of":
                self.refused(NoName, 20, read_question, HOUSE, "rows of people days" + behind)
            else:
                self.refused(Apart, 2, read_question, HOUSE, "rows of people days" + behind)
        self.refused(Apart, 2, read_question, HOUSE, "rows of days people")
        self.assertEqual(read_question(HOUSE, "rows of people days calls")[0], (0, 1, 2))
        self.refused(Twice, 20, read_question, HOUSE, "rows of people days people")
        self.refused(NoName, 20, read_question, HOUSE, "rows of people days id")

    def test_8_tests_and_9(self):
        text = "rows where " + " and ".join(["id blank"] * 8)
        self.assertEqual(read_question(HOUSE, text)[3], ((0, "blank", 0),) * 8)
        self.assertEqual(print_question(HOUSE, ((), (), (), ((0, "blank", 0),) * 8)), text)
        self.refused(BadText, len(text) + 5, read_question, HOUSE, text + " and id blank")
        self.refused(BadText, len(text) + 4, read_question, HOUSE, text + " and")

    def test_first_wrong_words(self):
        for text, place in (
            ("", 0), ("row", 0), ("rows rows", 5), ("rows people", 5), ("rows of", 7), ("rows with", 9), ("rows where", 10),
            ("rows of with", 8), ("rows of people of", None), ("rows with people of people", None), ("rows where id", 13),
            ("rows where id =", 15), ("rows where id = 01", 16), ("rows where id = 1000000", 16), ("rows where id == 1", 15),
            ("rows where id is 1", 14), ("rows where id = 1 and", 21), ("rows where id = 1, day = 2", 17),
            ("rows where id filled 0", 21), ("rows without people with calls", 20), ("rows where id = 1 with calls", 18),
            ("rows with without", 10), ("rows where where", 11), ("rows where id = 1 or id = 2", 18), ("rows;", 4),
        ):
            if place is None:
                self.refused(NoName, text.index("of", 8), read_question, HOUSE, text)
            else:
                self.refused(BadText, place, read_question, HOUSE, text)

    def test_names_that_are_words_of_the_texts(self):
        house = (("of", "rows", "blank"), (("rows", (0, 1)), ("of", (1, 2)), ("and", (1,))))
        text = "rows of rows of with of without rows and where of = 1 and blank blank and rows filled"
        self.refused(BadText, 37, read_question, house, text)
        text = "rows of rows of and with of without rows and where of = 1 and blank blank and rows filled"
        question = ((0, 1, 2), (1,), (0, 2), ((0, "is", 1), (2, "blank", 0), (1, "filled", 0)))
        self.assertEqual(read_question(house, text), question)
        self.assertEqual(print_question(house, question), text)

    def test_drawn_questions(self):
        random = Random(61)
        for _ in range(300):
            house = random_house(random)
            question = house_question(random, house)
            text = own_text(words_of(question_slots(house, question)))
            self.assertEqual(print_question(house, question), text)
            self.assertEqual(read_question(house, text), question)

    def test_what_is_no_question(self):
        self.refused(BadHouse, -1, print_question, None, None)
        for thing, index in (
            (None, -1), (((), (), ()), -1), (((0, 2), (), (), ()), 0), (((3,), (), (), ()), 0), (((), (3,), None, None), 1),
            (((0,), (0,), (1,), ()), 2), (((), (), (), ((4, "filled", 0),)), 3), (((), (), (), ((0, "is", 1000000),)), 3),
            (((), (), (), ((0, "blank", 0),) * 9), 3),
        ):
            self.refused(BadQuestion, index, print_question, HOUSE, thing)
        for thing in ODD:
            self.refused(BadQuestion, -1, print_question, HOUSE, thing)


class Lots(Case):

    def test_the_example(self):
        self.assertEqual(print_lots(HOUSE, (LOT,)), "people 0 calls 0: 1 10 5 -")
        self.assertEqual(print_lots(house=HOUSE, lots=()), "none")
        two = (LOT, ((None, None, 999999), (None, None, 0, 999999)))
        self.assertEqual(print_lots(HOUSE, two), "people 0 calls 0: 1 10 5 - | days 999999: - - 0 999999")

    def test_lots_of_drawn_data(self):
        random = Random(64)
        for _ in range(200):
            house = random_house(random)
            book = own_book(house)
            data = random_data(random, book, 3, 3)
            lots = tuple((lot, shown(book, data, lot)) for lot in whole(book, data))
            self.assertEqual(print_lots(house, lots), own_lots(house, lots))

    def test_what_belongs_together_is_not_asked(self):
        pair = ((7, None, 3), (None, 1, None, None))
        self.assertEqual(print_lots(HOUSE, (pair, pair)), "people 7 days 3: - 1 - - | people 7 days 3: - 1 - -")

    def test_what_is_no_lot(self):
        self.refused(BadHouse, -1, print_lots, None, None)
        for thing in (None, 7, "none", True):
            self.refused(BadLots, -1, print_lots, HOUSE, thing)
        for wrong in (
            None, (), LOT[:1], LOT + LOT, ((0, 0), LOT[1]), ((None,) * 3, LOT[1]), ((0, 0, 1000000), LOT[1]),
            ((0, 0, True), LOT[1]), ((0, 0, -1), LOT[1]), (LOT[0], (1, 10, 5)), (LOT[0], (None,) * 4),
            (LOT[0], (1, 10, 5, 1000000)), (LOT[0], (1, 10, False, None)), ((0, 0, 0, 0), LOT[1]), (LOT[0], LOT[1] + (0,)),
        ):
            self.refused(BadLots, 0, print_lots, HOUSE, (wrong,))
            self.refused(BadLots, 1, print_lots, HOUSE, (LOT, wrong, None))
        for thing in ODD:
            self.refused(BadLots, 0, print_lots, HOUSE, (thing, LOT))
            self.refused(BadLots, 0, print_lots, HOUSE, ((thing, LOT[1]),))
            self.refused(BadLots, 1, print_lots, HOUSE, (LOT, (LOT[0], thing)))

    def test_bent_lots(self):
        told = 0
        full = ((0, 7, 3), (1, 10, 5, 9))
        for thing in bent((full, full)):
            try:
                self.assertEqual(print_lots(HOUSE, thing), own_lots(HOUSE, thing))
                told += 1
            except BadLots as error:
                self.assertIn(error.what, (-1, 0, 1, 2))
        self.assertGreater(told, 5)


if __name__ == "__main__":
    unittest.main()
