"""[41], [42]: parts and joins of groups, told out of lots."""

import unittest
from random import Random
from time import perf_counter

from behindboth.errors import BadBook, BadGroup, BadLots
from behindboth.parts import join_of, part_of
from behindboth.whole import whole
from helpers import (
    AB_BC_CD, APART, ODD, TRIANGLE, TWELVE, Case, in_order, meeting, plain_lies, plain_whole, random_book, random_data,
)
from searches import plain_hangs, plain_shared

B = (((5, 1),), ((1, 2),), ((2, 7), (3, 7)))
B_WHOLE = ((None, None, 1), (0, 0, 0))


def only(tags, group):
    return tuple(tag if source in group else None for source, tag in enumerate(tags))


def plain_pieces(book, tags):
    """The pieces of tags, by the words: the greatest groups of their sources that hang together."""
    rest = {s for s, tag in enumerate(tags) if tag is not None}
    while rest:
        piece = {min(rest)}
        for _ in rest:
            piece |= {s for s in rest if any(plain_shared(book, s, t) for t in piece)}
        rest -= piece
        yield only(tags, piece)


def plain_part_of(book, lots, group):
    pieces = {piece for lot in lots for piece in plain_pieces(book, only(lot, group))}
    return tuple(sorted(
        [one for one in pieces if not any(one != two and plain_lies(one, two) for two in pieces)], key=in_order,
    ))


def plain_join_of(lots, group):
    return tuple(sorted({only(lot, group) for lot in lots if all(lot[s] is not None for s in group)}, key=in_order))


def own_whole(book, data, group):
    """The whole of the sources of a group alone, by a plain own look at all tags."""
    return plain_whole(book, tuple(rows if s in group else () for s, rows in enumerate(data)))


def groups_of(book):
    for number in range(1, 1 << len(book)):
        yield tuple(s for s in range(len(book)) if number >> s & 1)


def random_lots(random, many):
    lots = []
    for _ in range(random.randint(0, 12)):
        tags = tuple(random.choice((None, 0, 1, 2, 999999)) for _ in range(many))
        if tags != (None,) * many:
            lots.append(tags)
    return tuple(lots + random.sample(lots, len(lots) // 3))


class Examples(Case):

    def test_parts_of_b(self):
        self.assertEqual(whole(AB_BC_CD, B), B_WHOLE)
        self.assertEqual(part_of(AB_BC_CD, B_WHOLE, (0, 2)), ((None, None, 0), (None, None, 1), (0, None, None)))
        self.assertEqual(part_of(AB_BC_CD, B_WHOLE, (0, 1, 2)), B_WHOLE)
        self.assertEqual(part_of(AB_BC_CD, B_WHOLE, (1, 2)), ((None, None, 1), (None, 0, 0)))
        self.assertEqual(part_of(book=AB_BC_CD, lots=B_WHOLE, group=(1,)), ((None, 0, None),))

    def test_joins_of_b(self):
        self.assertEqual(join_of(AB_BC_CD, B_WHOLE, (1, 2)), ((None, 0, 0),))
        self.assertEqual(join_of(AB_BC_CD, B_WHOLE, (2,)), ((None, None, 0), (None, None, 1)))
        self.assertEqual(join_of(book=AB_BC_CD, lots=B_WHOLE, group=(0, 2)), ((0, None, 0),))

    def test_no_lots(self):
        self.assertEqual(part_of(AB_BC_CD, (), (0, 2)), ())
        self.assertEqual(join_of(AB_BC_CD, (), (0, 2)), ())

    def test_lots_that_have_nothing_of_the_group(self):
        self.assertEqual(part_of(AB_BC_CD, B_WHOLE[:1], (0, 1)), ())
        self.assertEqual(join_of(AB_BC_CD, B_WHOLE[:1], (0, 1)), ())

    def test_lots_that_are_no_whole(self):
        lots = ((0, 1, None), (0, 1, 2), (None, 1, 2), (0, 1, 2), (None, None, 2), (3, None, None))
        self.assertEqual(part_of(AB_BC_CD, lots, (0, 1, 2)), ((0, 1, 2), (3, None, None)))
        self.assertEqual(part_of(AB_BC_CD, lots, (0, 1)), ((0, 1, None), (3, None, None)))
        self.assertEqual(part_of(AB_BC_CD, ((0, None, 0),), (0, 1, 2)), ((None, None, 0), (0, None, None)))
        self.assertEqual(join_of(AB_BC_CD, lots, (0, 1)), ((0, 1, None),))


class Searches(Case):

    def test_the_whole_of_a_group_and_its_join(self):
        random = Random(41)
        rings = (TRIANGLE, ((0, 1), (1, 2), (2, 3), (0, 3)), AB_BC_CD, APART)
        for round_number in range(160):
            book = rings[round_number % 8] if round_number % 8 < 4 else random_book(random, 4, 5, 3)
            data = random_data(random, book, 3, 2)
            lots = whole(book, data)
            for group in groups_of(book):
                if plain_hangs(book, group):
                    alone = own_whole(book, data, group)
                    self.assertEqual(part_of(book, lots, group), alone)
                    every = tuple(lot for lot in alone if all(lot[s] is not None for s in group))
                    self.assertEqual(join_of(book, lots, group), every)

    def test_any_lots_and_groups_by_the_words(self):
        random = Random(42)
        for _ in range(150):
            book = random_book(random, 6, 8, 3)
            lots = random_lots(random, len(book))
            for group in random.sample(list(groups_of(book)), min(8, 2 ** len(book) - 1)):
                wanted = plain_part_of(book, lots, group)
                self.assertEqual(part_of(book, lots, group), wanted)
                self.assertEqual(part_of(book, lots[::-1] + lots, group), wanted)
                self.assertEqual(join_of(book, lots, group), plain_join_of(lots, group))
                self.assertEqual(join_of(book, lots[::-1] + lots, group), plain_join_of(lots, group))


class Edges(Case):

    def test_3000_lots_quickly(self):
        began = perf_counter()
        book, data = meeting((40, 25, 3))
        lots = whole(book, data)
        self.assertEqual(part_of(book, lots, (0, 1, 2)), lots)
        self.assertEqual(part_of(book, lots, (1, 2)), tuple((None, i, j) for i in range(25) for j in range(3)))
        self.assertEqual(join_of(book, lots, (0, 1)), tuple((i, j, None) for i in range(40) for j in range(25)))
        alone = tuple((k,) * 12 for k in range(8000))
        self.assertEqual(part_of(TWELVE, alone, tuple(range(12))), alone)
        self.assertEqual(len(part_of(TWELVE, alone, (0, 2, 4, 6, 8, 10))), 48000)
        self.assertLess(perf_counter() - began, 20)

    def test_more_pieces_than_are_compared_at_once(self):
        alone = tuple((k, None, None) for k in range(4096))
        pair = ((4095, 7, None), (5, 7, None), (4096, 7, None))
        for first in range(3):
            more = pair[first:] + pair[:first]
            wanted = tuple(sorted(alone[:5] + alone[6:4095] + more, key=in_order))
            self.assertEqual(part_of(AB_BC_CD, alone + more, (0, 1)), wanted)
            self.assertEqual(part_of(AB_BC_CD, more + alone, (0, 1)), wanted)
            self.assertEqual(part_of(AB_BC_CD, (alone + more) * 2, (0,)), alone + ((4096, None, None),))

    def test_parts_with_many_sets_of_sources(self):
        began = perf_counter()
        book = tuple((0, k + 1) for k in range(12))
        lots = tuple(tuple(0 if n >> s & 1 else None for s in range(12)) for n in range(1, 4096))
        self.assertEqual(part_of(book, lots, tuple(range(12))), ((0,) * 12,))
        self.assertEqual(part_of(book, lots, (3, 5)), ((None,) * 3 + (0, None, 0) + (None,) * 6,))
        self.assertLess(perf_counter() - began, 20)

    def test_tags_of_999999_and_1000000(self):
        lots = ((999999, None, None), (999999, 0, 999999))
        self.assertEqual(part_of(AB_BC_CD, lots, (0, 1)), ((999999, 0, None),))
        self.assertEqual(join_of(AB_BC_CD, lots, (0, 2)), ((999999, None, 999999),))
        for function in (part_of, join_of):
            self.refused(BadLots, 1, function, AB_BC_CD, ((0, 0, 0), (None, 1000000, None)), (0,))
            self.refused(BadLots, 0, function, AB_BC_CD, ((-1, None, None),), (0,))

    def test_one_source_and_twelve(self):
        self.assertEqual(part_of(((0,),), ((3,), (1,), (3,)), (0,)), ((1,), (3,)))
        lots = ((0,) * 12, (1,) + (None,) * 11)
        self.assertEqual(part_of(TWELVE, lots, tuple(range(12))), lots)
        self.assertEqual(join_of(TWELVE, lots, (0,)), ((0,) + (None,) * 11, (1,) + (None,) * 11))


class Refusals(Case):

    def test_order_of_refusals(self):
        for function in (part_of, join_of):
            self.refused(BadBook, -1, function, (), None, None)
            self.refused(BadBook, 1, function, ((0,), (0, 0)), None, None)
            self.refused(BadLots, -1, function, AB_BC_CD, None, None)
            self.refused(BadLots, 0, function, AB_BC_CD, (None, None), None)
            self.refused(BadLots, 0, function, AB_BC_CD, ((0, 0),), None)
            self.refused(BadLots, 1, function, AB_BC_CD, ((0, None, 0), (None, None, None)), None)
            self.refused(BadLots, 0, function, AB_BC_CD, ((0, True, 0),), (0,))
            self.refused(BadLots, 0, function, AB_BC_CD, ((0, "0", 0),), (0,))
            for group in (None, (), (3,), (1, 0), (0, 0), (True,), 0):
                self.refused(BadGroup, -1, function, AB_BC_CD, B_WHOLE, group)

    def test_odd_values(self):
        for thing in ODD:
            for function in (part_of, join_of):
                self.assertRaises(BadBook, function, thing, (), (0,))
                self.refused(BadLots, 0, function, AB_BC_CD, (thing,), (0,))
                if thing is True or thing is False or thing not in (None, 0, 1, 24):
                    self.refused(BadLots, 1, function, AB_BC_CD, B_WHOLE[:1] + ((0, 0, thing), thing), thing)
                self.refused(BadGroup, -1, function, AB_BC_CD, B_WHOLE, thing)
                if not isinstance(thing, tuple):
                    self.refused(BadLots, -1, function, AB_BC_CD, thing, (0,))


if __name__ == "__main__":
    unittest.main()
