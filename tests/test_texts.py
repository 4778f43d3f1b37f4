"""[55], [65]: words of all kinds of texts, made wrong one by one; there and back."""

import unittest
from collections import namedtuple
from random import Random
from time import perf_counter

from behindboth.errors import Apart, BadHouse, BadText, NoName, Twice
from behindboth.housetexts import print_data, print_house, read_data, read_house
from behindboth.papertexts import print_judged, print_why, read_judged, read_why
from behindboth.plantexts import print_order, print_plan, read_order, read_plan
from behindboth.questiontexts import print_question, read_question
from behindboth.ruletexts import print_rule, read_rule
from helpers import ODD, Case, random_book
from searches import plain_hangs
from texts import (
    NOWHERE, data_slots, house_judged, house_question, house_rule, house_slots, house_why, judged_slots, numbered,
    order_slots, own_book, own_text, plan_slots, question_slots, random_house, random_named, random_parts, rule_slots,
    source_names, spread, tight, whole_plan, why_slots, words_of,
)

HOUSE = (("id", "name", "day", "word"), (("people", (0, 1)), ("calls", (0, 2)), ("days", (2, 3))))
WORDS = ("with", "without", "where")
# What is drawn: a house, a value, the words of one of its texts, and those of the text that is told.
Drawn = namedtuple("Drawn", "house value slots told")
# never: signs and words that can stand nowhere in such a text.
Kind = namedtuple("Kind", "draw read told never")


def shuffled(random):
    return lambda some: tuple(random.sample(some, len(some)))


def draw_house(random):
    named = random_named(random, random_book(random, random.choice((3, 6, 12)), random.choice((4, 8, 24)), 8))
    house = numbered(named)
    rising = [(name, [house[0][column] for column in scheme]) for name, scheme in house[1]]
    return Drawn(house, house, house_slots(named), house_slots(rising))


def draw_plan(random):
    house = random_house(random)
    plan = whole_plan(random, house)
    return Drawn(house, plan, plan_slots(house, plan), plan_slots(house, plan))


def draw_order(random):
    house = random_house(random)
    order = tuple(random.sample(range(len(house[1])), len(house[1])))
    return Drawn(house, order, order_slots(house, order), order_slots(house, order))


def draw_rule(random):
    house = random_house(random)
    rule = house_rule(random, house)
    return Drawn(house, rule, rule_slots(house, rule), rule_slots(house, rule))


def draw_data(random):
    house = random_house(random, 4)
    parts, data = random_parts(random, house, random.choice((2, 1000000)))
    return Drawn(house, data, data_slots(house, parts), data_slots(house, sorted(parts)))


def draw_question(random):
    house = random_house(random)
    question = house_question(random, house)
    return Drawn(
        house, question, question_slots(house, question, shuffled(random)), question_slots(house, question),
    )


def draw_judged(random):
    house = random_house(random)
    paper = house_judged(random, house)
    return Drawn(house, paper, judged_slots(house, paper, shuffled(random)), judged_slots(house, paper))


def draw_why(random):
    house = random_house(random)
    paper = house_why(random, house)
    return Drawn(house, paper, why_slots(house, paper), why_slots(house, paper))


KINDS = {
    "house": Kind(
        draw_house, lambda house, text: read_house(text), lambda house, value: print_house(value),
        ("(", ")", ",", "|", "=", "0", "17") + WORDS,
    ),
    "plan": Kind(draw_plan, read_plan, print_plan, (",", ":", ";", "|", "=", "0", "17") + WORDS),
    "order": Kind(draw_order, read_order, print_order, ("(", ")", ":", ";", "|", "=", "0", "17") + WORDS),
    "rule": Kind(draw_rule, read_rule, print_rule, ("(", ")", ",", ":", "|", "=") + WORDS),
    "data": Kind(draw_data, read_data, print_data, ("(", ")", "|", "=") + WORDS),
    "question": Kind(draw_question, read_question, print_question, ("(", ")", ",", ":", ";", "|")),
    "judged": Kind(draw_judged, read_judged, print_judged, ("(", ")", ",", ";", "=") + WORDS),
    "why": Kind(draw_why, read_why, print_why, (",", ":", ";", "|", "=", "0", "17") + WORDS),
}


class Words(Case):

    def wrong(self, kind, drawn, at, words, error, what=None):
        """Expects an error at a place: that of the word with this index, where nothing else is said."""
        text = " ".join(words)
        if what is None:
            what = len(" ".join(words[:at])) + (at > 0)
        self.refused(error, what, kind.read, drawn.house, text)

    def junk(self, kind, drawn, at, words):
        """Expects that the word with this index cannot stand; but what is asked ahead of it goes first."""
        early = drawn.slots[at].early if at < len(drawn.slots) else None
        if early is None:
            self.wrong(kind, drawn, at, words, BadText)
        else:
            self.wrong(kind, drawn, at, words, Apart, early)

    def each_kind(self, seed, rounds):
        random = Random(seed)
        for kind in KINDS.values():
            for _ in range(rounds):
                drawn = kind.draw(random)
                yield random, kind, drawn, words_of(drawn.slots)

    def test_a_word_that_can_stand_nowhere(self):
        for random, kind, drawn, words in self.each_kind(550, 60):
            for at in range(len(words) + 1):
                for wrong in random.sample(NOWHERE, 2) + random.sample(kind.never, 2):
                    self.junk(kind, drawn, at, words[:at] + [wrong] + words[at:])
                    if at < len(words) and words[at] != wrong:
                        self.junk(kind, drawn, at, words[:at] + [wrong] + words[at + 1:])

    def test_the_text_cut(self):
        for _, kind, drawn, words in self.each_kind(551, 150):
            for at, slot in enumerate(drawn.slots):
                if slot.early is not None:
                    self.wrong(kind, drawn, at, words[:at], Apart, slot.early)
                elif not slot.ends:
                    text = " ".join(words[:at])
                    self.refused(BadText, len(text), kind.read, drawn.house, text)

    def test_names_that_nobody_has(self):
        for _, kind, drawn, words in self.each_kind(552, 80):
            for at, slot in enumerate(drawn.slots):
                names = {"source": source_names(drawn.house), "column": drawn.house[0]}
                if slot.kind in names:
                    for name in ("zz9zz", "q") + drawn.house[0] + tuple(source_names(drawn.house)):
                        if name not in names[slot.kind]:
                            self.wrong(kind, drawn, at, words[:at] + [name] + words[at + 1:], NoName)

    def test_names_that_stand_ahead(self):
        tried = 0
        for random, kind, drawn, words in self.each_kind(553, 80):
            for at, slot in enumerate(drawn.slots):
                if slot.ahead:
                    name = random.choice(slot.ahead)
                    self.wrong(kind, drawn, at, words[:at] + [name] + words[at:], Twice)
                    self.wrong(kind, drawn, at, words[:at] + [name] + words[at + 1:], Twice)
                    tried += 1
        self.assertGreater(tried, 1000)

    def test_figure_words(self):
        for _, kind, drawn, words in self.each_kind(554, 80):
            for at, slot in enumerate(drawn.slots):
                if slot.kind in ("figures", "count"):
                    for wrong in ("a", "with", ")", "=", "q9") + ("100", "1000", "999999") * (slot.kind == "count"):
                        self.wrong(kind, drawn, at, words[:at] + [wrong] + words[at + 1:], BadText)
                    for fine in ("0", "9", "10", "99"):
                        if kind is not KINDS["data"]:
                            kind.read(drawn.house, " ".join(words[:at] + [fine] + words[at + 1:]))

    def test_the_first_of_two_wrong_words(self):
        for random, kind, drawn, words in self.each_kind(555, 120):
            at = random.randrange(len(words) + 1)
            behind = [random.choice(NOWHERE) if random.random() < 0.4 else word for word in words[at:]]
            self.junk(kind, drawn, at, words[:at] + [random.choice(NOWHERE)] + behind)

    def test_signs_that_no_text_has_go_ahead_of_all(self):
        for random, kind, drawn, words in self.each_kind(556, 60):
            text = " ".join(words)
            for sign in ("\x1f", "\x7f", "\n", "\t", "\0", "\x80", "\xe9", "\u0660", "\ud800", "\U0001f600"):
                for wrong in (text, "Q " + text):
                    at = random.randrange(len(wrong) + 1)
                    self.refused(BadText, at, kind.read, drawn.house, wrong[:at] + sign + wrong[at:] + "\n")


class Signs(Case):

    def each_reader(self):
        for kind in KINDS.values():
            yield lambda text, read=kind.read: read(HOUSE, text)

    def test_codes_31_32_126_127(self):
        for read in self.each_reader():
            self.refused(BadText, 0, read, ") ~")
            self.refused(BadText, 2, read, ") \x7f")
            self.refused(BadText, 2, read, ") \x1f")
            self.refused(BadText, 3, read, "   ~")
            self.refused(BadText, 3, read, "   \x7f")

    def test_20000_signs_and_20001(self):
        began = perf_counter()
        for kind, text, value in (
            (KINDS["house"], "a: x", (("x",), (("a", (0,)),))), (KINDS["plan"], "((people calls) days)", ((0, 1), 2)),
            (KINDS["order"], "days, people, calls", (2, 0, 1)), (KINDS["rule"], "", ()), (KINDS["data"], "", ((),) * 3),
            (KINDS["question"], "rows", ((), (), (), ())), (KINDS["judged"], "right:", ("right", ())),
            (KINDS["why"], "plan (days (calls people))", ("plan", (2, (1, 0)))),
        ):
            self.assertEqual(kind.read(HOUSE, text + " " * (20000 - len(text))), value)
            self.assertEqual(kind.read(HOUSE, " " * (20000 - len(text)) + text), value)
            self.refused(BadText, 20000, kind.read, HOUSE, " " * (20001 - len(text)) + text)
            self.refused(BadText, 20000, kind.read, HOUSE, ")" + text + " " * 20000)
            self.refused(BadText, 20000, kind.read, HOUSE, "\x20" * 20000 + "\x1f")
            self.refused(BadText, 19999, kind.read, HOUSE, "\x20" * 19999 + "\x1f" + "\x1f" * 100)
            self.refused(BadText, 20000, kind.read, HOUSE, ")" * 1000000)
            self.refused(BadText, 0, kind.read, HOUSE, ")" * 20000)
        self.assertLess(perf_counter() - began, 20)

    def test_what_is_no_text(self):
        for read in self.each_reader():
            for thing in ODD + ((b"rows",), 17.5):
                if not isinstance(thing, str):
                    self.refused(BadText, -1, read, thing)

    def test_houses_go_ahead(self):
        for name, kind in KINDS.items():
            if name != "house":
                self.refused(BadHouse, -1, kind.read, None, None)
                self.refused(BadHouse, -1, kind.read, (HOUSE[0], ()), "\n")
                self.refused(BadHouse, 0, kind.read, (HOUSE[0], HOUSE[1][1:]), "Q")
                self.refused(BadText, -1, kind.read, HOUSE, None)

    def test_equal_calls_return_the_same(self):
        random = Random(557)
        for kind in KINDS.values():
            drawn = kind.draw(random)
            text = " ".join(words_of(drawn.slots))
            self.assertEqual(kind.read(drawn.house, text), kind.read(drawn.house, text))


class ThereAndBack(Case):

    def test_what_is_told_is_read_as_it_was(self):
        random = Random(650)
        for kind in KINDS.values():
            for _ in range(250):
                drawn = kind.draw(random)
                text = kind.told(drawn.house, drawn.value)
                self.assertEqual(text, own_text(words_of(drawn.told)))
                self.assertEqual(kind.read(drawn.house, text), drawn.value)
                self.assertEqual(repr(kind.read(drawn.house, text)), repr(drawn.value))

    def test_more_blanks_and_none(self):
        random = Random(651)
        for kind in KINDS.values():
            for _ in range(250):
                drawn = kind.draw(random)
                words = words_of(drawn.slots)
                for text in (" ".join(words), spread(random, words), tight(words), "  ".join([""] + words + [""])):
                    value = kind.read(drawn.house, text)
                    self.assertEqual(value, drawn.value)
                    self.assertEqual(kind.read(drawn.house, kind.told(drawn.house, value)), value)

    def test_books_are_drawn_that_hang_together_and_others(self):
        random = Random(652)
        books = [own_book(KINDS["order"].draw(random).house) for _ in range(100)]
        hanging = [plain_hangs(book, range(len(book))) for book in books]
        self.assertGreater(min(hanging.count(True), hanging.count(False)), 10)


if __name__ == "__main__":
    unittest.main()
