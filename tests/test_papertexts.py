"""[62], [63]: what is told of plans and of books, as texts."""

import unittest
from random import Random

from behindboth.errors import BadHouse, BadPaper, BadText, Lacking, NoName, Twice
from behindboth.judge import judged
from behindboth.papertexts import print_judged, print_why, read_judged, read_why
from behindboth.rings import why
from helpers import ODD, Case
from searches import bent
from texts import (
    house_judged, house_why, joined_house, judged_slots, own_book, own_text, random_house, whole_plan, why_slots,
    words_of,
)

HOUSE = (("id", "name", "day", "word"), (("people", (0, 1)), ("calls", (0, 2)), ("days", (2, 3))))
FIVE = (("e", "f"), (("a", (0,)), ("b", (0, 1)), ("c", (0,)), ("d", (1,))))
RING = (("x", "y", "z"), (("a", (0, 1)), ("b", (1, 2)), ("c", (0, 2))))
UNLIKE = ("unlike", 2, 0, 3, 0, (0, 2), (3,))


def number_below(thing, limit):
    return isinstance(thing, int) and not isinstance(thing, bool) and 0 <= thing < limit


def unlike_below(thing, least, limit):
    return (
        isinstance(thing, tuple) and len(thing) >= least and all(number_below(part, limit) for part in thing)
        and len(set(thing)) == len(thing)
    )


def judged_form(house, told):
    """Whether a text tells such a thing, by an own look."""
    columns, sources = len(house[0]), len(house[1])
    if not isinstance(told, tuple) or not told or told[0] not in ("right", "apart", "unlike"):
        return False
    if told[0] == "right":
        return len(told) == 2 and isinstance(told[1], tuple) and all(
            unlike_below(z, 1, columns) and list(z) == sorted(z) for z in told[1]
        )
    if len(told) != {"apart": 3, "unlike": 7}[told[0]] or not number_below(told[1], 100):
        return False
    if told[0] == "apart":
        return unlike_below(told[2], 3, sources)
    return (
        number_below(told[2], sources) and number_below(told[3], sources) and number_below(told[4], columns)
        and unlike_below(told[5], 1, sources) and unlike_below(told[6], 1, sources)
    )


def why_form(house, told):
    if not isinstance(told, tuple) or len(told) < 2 or told[0] not in ("plan", "ring"):
        return False
    if told[0] == "ring":
        return (
            len(told) == 3 and unlike_below(told[1], 3, len(house[1])) and isinstance(told[2], tuple)
            and len(told[2]) == len(told[1]) and all(number_below(x, len(house[0])) for x in told[2])
        )

    def leaves(plan):
        if isinstance(plan, tuple):
            return leaves(plan[0]) + leaves(plan[1]) if len(plan) == 2 else [None]
        return [plan] if number_below(plan, len(house[1])) else [None]

    found = leaves(told[1])
    return len(told) == 2 and None not in found and sorted(found) == list(range(len(house[1])))


class Judged(Case):

    def test_the_examples(self):
        self.assertEqual(judged(own_book(HOUSE), ((0, 1), 2)), ("right", ((0,), (2,))))
        for house, text, told in (
            (HOUSE, "right: id | day", ("right", ((0,), (2,)))), (HOUSE, "right:", ("right", ())),
            (HOUSE, "apart 1: people calls days", ("apart", 1, (0, 1, 2))), (FIVE, "unlike 2: a d at e: a c | d", UNLIKE),
        ):
            self.assertEqual(read_judged(house, text), told)
            self.assertEqual(print_judged(house, told), text)
        self.assertEqual(read_judged(house=HOUSE, text="right:"), ("right", ()))
        self.assertEqual(print_judged(house=HOUSE, told=("right", ())), "right:")

    def test_columns_in_any_order_and_forks_as_many_as_one_likes(self):
        self.assertEqual(read_judged(HOUSE, "right: word id day | day name"), ("right", ((0, 2, 3), (1, 2))))
        zs = ((0,), (1, 3)) * 50
        self.assertEqual(read_judged(HOUSE, "right: " + " | ".join(["id", "word name"] * 50)), ("right", zs))
        self.assertEqual(print_judged(HOUSE, ("right", zs)), "right: " + " | ".join(["id", "name word"] * 50))

    def test_one_and_the_same_source(self):
        text = "unlike 0: a a at e: b | b"
        self.assertEqual(read_judged(FIVE, text), ("unlike", 0, 0, 0, 0, (1,), (1,)))
        self.assertEqual(print_judged(FIVE, ("unlike", 0, 0, 0, 0, (1,), (1,))), text)

    def test_99_and_100(self):
        self.assertEqual(read_judged(HOUSE, "apart 99: days calls people"), ("apart", 99, (2, 1, 0)))
        self.refused(BadText, 6, read_judged, HOUSE, "apart 100: days calls people")
        self.refused(BadText, 7, read_judged, FIVE, "unlike 100: a d at e: a c | d")
        self.refused(BadPaper, 0, print_judged, HOUSE, ("apart", 100, (0, 1, 2)))
        self.refused(BadPaper, 0, print_judged, FIVE, ("unlike", 100) + UNLIKE[2:])
        self.assertEqual(print_judged(FIVE, ("unlike", 99) + UNLIKE[2:]), "unlike 99: a d at e: a c | d")

    def test_twice_and_no_name(self):
        for text, error, place in (
            ("right: id id", Twice, 10), ("right: id | id id", Twice, 15), ("right: people", NoName, 7),
            ("apart 1: people calls people", Twice, 22), ("apart 1: id", NoName, 9), ("apart 1: people people", Twice, 16),
            ("right: id | day with", BadText, 16),
        ):
            self.refused(error, place, read_judged, HOUSE, text)
        for text, error, place in (
            ("unlike 2: a d at e: a a | d", Twice, 22), ("unlike 2: a d at e: a | d d", Twice, 26),
            ("unlike 2: a x at e: a | d d", NoName, 12), ("unlike 2: a d at a: a | d d", NoName, 17),
            ("unlike 2: a d at e: e", NoName, 20), ("unlike 2: a d at e: a | a d a", Twice, 28),
        ):
            self.refused(error, place, read_judged, FIVE, text)

    def test_first_wrong_words(self):
        for text, place in (
            ("", 0), ("wrong", 0), ("right", 5), ("right id", 6), ("right: |", 7), ("right: id |", 11), ("right: id, day", 9),
            ("right: id | | day", 12), ("apart", 5), ("apart:", 5), ("apart 1", 7), ("apart 1:", 8), ("apart 1: people", 15),
            ("apart 1: people calls", 21), ("apart 1: people calls | days", 22), ("apart people", 6),
            ("apart 1: people calls days |", 27), ("unlike 1: people", 16), ("unlike 1: people calls days", 23),
            ("unlike 1: people calls at id day", 29), ("unlike 1: people calls at id: people calls", 42),
            ("unlike 1: people calls at id: |", 30), ("unlike 1: people calls at id: people |", 38),
            ("unlike 1: people calls at id: people | calls |", 45), ("right: with", 7), ("right: 7", 7),
        ):
            self.refused(BadText, place, read_judged, HOUSE, text)

    def test_what_is_told_of_drawn_plans(self):
        random = Random(62)
        for _ in range(200):
            house = joined_house(random)
            told = judged(own_book(house), whole_plan(random, house))
            text = own_text(words_of(judged_slots(house, told)))
            self.assertEqual(print_judged(house, told), text)
            self.assertEqual(read_judged(house, text), told)
            told = house_judged(random, house)
            self.assertEqual(read_judged(house, print_judged(house, told)), told)

    def test_what_no_text_tells(self):
        for house, told in ((FIVE, UNLIKE), (HOUSE, ("apart", 0, (0, 1, 2))), (HOUSE, ("right", ((0, 1), (2,))))):
            for thing in bent(told):
                if judged_form(house, thing):
                    self.assertEqual(read_judged(house, print_judged(house, thing)), thing)
                else:
                    self.refused(BadPaper, 0, print_judged, house, thing)

    def test_columns_and_sources_beyond_the_house(self):
        for told in (
            ("right", ((4,),)), ("right", ((),)), ("right", ((1, 0),)), ("right", ((0, 0),)), ("right", ((True,),)),
            ("apart", 0, (0, 1)), ("apart", 0, (0, 1, 3)), ("apart", 0, (0, 1, 0)), ("apart", -1, (0, 1, 2)),
            ("unlike", 0, 0, 3, 0, (0,), (0,)), ("unlike", 0, 0, 1, 4, (0,), (0,)), ("unlike", 0, 0, 1, 0, (), (0,)),
            ("unlike", 0, 0, 1, 0, (0,), ()), ("unlike", 0, 0, 1, 0, (0,), (3,)), ("ring", (0, 1, 2), (0, 1, 2)),
        ):
            self.refused(BadPaper, 0, print_judged, HOUSE, told)
        self.refused(BadHouse, -1, print_judged, None, None)
        for thing in ODD:
            self.refused(BadPaper, 0, print_judged, HOUSE, thing)
            self.refused(BadPaper, 0, print_judged, HOUSE, ("apart", thing, thing))
            self.refused(BadPaper, 0, print_judged, HOUSE, (thing, 0, (0, 1, 2)))
            self.refused(BadPaper, 0, print_judged, HOUSE, ("right", (thing, ())))


class Why(Case):

    def test_the_examples(self):
        text = "ring a x b y c z"
        self.assertEqual(read_why(RING, text), ("ring", (0, 1, 2), (0, 1, 2)))
        self.assertEqual(print_why(RING, ("ring", (0, 1, 2), (0, 1, 2))), text)
        self.assertEqual(read_why(HOUSE, "plan ((people calls) days)"), ("plan", ((0, 1), 2)))
        self.assertEqual(print_why(HOUSE, ("plan", ((0, 1), 2))), "plan ((people calls) days)")
        self.assertEqual(read_why(house=RING, text="ring c z a x b z"), ("ring", (2, 0, 1), (2, 0, 2)))
        self.assertEqual(print_why(house=RING, told=("ring", (2, 0, 1), (2, 0, 2))), "ring c z a x b z")

    def test_twice_no_name_and_lacking(self):
        for text, error, what in (
            ("ring a x a", Twice, 9), ("ring a x b y a x", Twice, 13), ("ring a a", NoName, 7), ("ring x", NoName, 5),
            ("ring a x b y c z b", Twice, 17), ("plan (a b)", Lacking, 2), ("plan c", Lacking, 0), ("plan (a x)", NoName, 8),
            ("plan (a (b a))", Twice, 11), ("plan (b c) Q", BadText, 11),
        ):
            self.refused(error, what, read_why, RING, text)

    def test_first_wrong_words(self):
        for text, place in (
            ("", 0), ("right", 0), ("ring", 4), ("plan", 4), ("ring a", 6), ("ring a x", 8), ("ring a x b y", 12),
            ("ring a x b y c", 14), ("ring a x b y c z ;", 17), ("ring a x, b", 8), ("ring (a", 5), ("plan ((a b) c", 13),
            ("plan ((a b) c) ring", 15), ("ring a 1", 7), ("ring a with", 7),
        ):
            self.refused(BadText, place, read_why, RING, text)

    def test_four_sources_and_brackets(self):
        house = (("x",), tuple((f"s{k}", (0,)) for k in range(12)))
        text = "ring " + " ".join(f"s{k} x" for k in range(12))
        self.assertEqual(read_why(house, text), ("ring", tuple(range(12)), (0,) * 12))
        self.assertEqual(print_why(house, ("ring", tuple(range(12)), (0,) * 12)), text)
        self.refused(BadText, 16, read_why, house, "plan " + "(" * 12)
        self.refused(Twice, len(text) + 1, read_why, house, text + " s0")

    def test_what_is_told_of_drawn_books(self):
        random = Random(63)
        kinds = set()
        for _ in range(200):
            house = joined_house(random)
            told = why(own_book(house))
            kinds.add(told[0])
            text = own_text(words_of(why_slots(house, told)))
            self.assertEqual(print_why(house, told), text)
            self.assertEqual(read_why(house, text), told)
            other = random_house(random)
            told = house_why(random, other)
            self.assertEqual(read_why(other, print_why(other, told)), told)
        self.assertEqual(kinds, {"plan", "ring"})

    def test_what_no_text_tells(self):
        for house, told in (
            (RING, ("ring", (0, 1, 2), (0, 1, 2))), (RING, ("plan", (0, (1, 2)))), (FIVE, ("ring", (3, 1, 0), (0, 0, 1))),
        ):
            for thing in bent(told):
                if why_form(house, thing):
                    self.assertEqual(read_why(house, print_why(house, thing)), thing)
                else:
                    self.refused(BadPaper, 0, print_why, house, thing)
        self.refused(BadHouse, -1, print_why, None, None)
        for thing in ODD:
            self.refused(BadPaper, 0, print_why, RING, thing)
            self.refused(BadPaper, 0, print_why, RING, ("ring", thing, thing))
            self.refused(BadPaper, 0, print_why, RING, ("ring", (0, 1, 2), (0, 1, (thing,))))
            self.refused(BadPaper, 0, print_why, RING, ("plan", thing))


if __name__ == "__main__":
    unittest.main()
