"""[47], [48], [49]: the kept whole, news, undo and redo."""

import unittest
from random import Random
from time import perf_counter

from behindboth.errors import (
    BadBook, BadRow, BadSource, Full, HasRow, NoRow, NothingToRedo, NothingToUndo, Refused, TooMany,
)
from behindboth.kept import Kept
from behindboth.whole import whole
from helpers import (
    AB_BC, AB_BC_CD, APART, F, ODD, TRIANGLE, TWELVE, Case, in_order, meeting, plain_whole, random_book,
)


def all_told(kept, book):
    """All that a Kept tells."""
    return kept.whole(), kept.news(), kept.data(), tuple(kept.rows(s) for s in range(len(book)))


def filled_kept(book, data):
    kept = Kept(book)
    for source, rows in enumerate(data):
        for row in rows:
            kept.put(source, row)
    return kept


def as_data(rows):
    return tuple(tuple(row for _, row in sorted(there.items())) for there in rows)


def led_over(lots, rows):
    """Lots of data told by the tags of the rows that they are made of."""
    tags = [sorted(there) for there in rows]
    return tuple(sorted(
        [tuple(None if tag is None else tags[s][tag] for s, tag in enumerate(lot)) for lot in lots], key=in_order,
    ))


class Own:
    """Plain own bookkeeping: all rows of each state, and the whole of each state looked for anew."""

    def __init__(self, book, find=whole):
        self.book = book
        self.find = find
        self.rows = [{} for _ in book]
        self.next = [0] * len(book)
        self.behind = []
        self.before = []
        self.news = ((), ())

    def whole(self):
        return led_over(self.find(self.book, as_data(self.rows)), self.rows)

    def go(self, rows):
        ahead = set(self.whole())
        self.rows = rows
        now = set(self.whole())
        self.news = tuple(tuple(sorted(lots, key=in_order)) for lots in (now - ahead, ahead - now))

    def copied(self):
        return [dict(there) for there in self.rows]

    def grant(self, rows):
        self.behind = (self.behind + [self.copied()])[-100:]
        self.before = []
        self.go(rows)

    def put(self, source, row):
        tag = self.next[source]
        self.next[source] += 1
        rows = self.copied()
        rows[source][tag] = row
        self.grant(rows)
        return tag

    def take(self, source, tag):
        rows = self.copied()
        del rows[source][tag]
        self.grant(rows)

    def undo(self):
        self.before.append(self.copied())
        self.go(self.behind.pop())

    def redo(self):
        self.behind.append(self.copied())
        self.go(self.before.pop())


class Example(Case):

    def test_the_example(self):
        kept = Kept(AB_BC)
        self.assertEqual(kept.news(), ((), ()))
        self.assertEqual(kept.put(0, (5, 6)), 0)
        self.assertEqual(kept.put(1, (6, 7)), 0)
        self.assertEqual(kept.news(), (((0, 0),), ((0, None),)))
        self.assertEqual(kept.put(1, (6, 8)), 1)
        self.assertEqual(kept.whole(), ((0, 0), (0, 1)))
        self.assertIsNone(kept.take(0, 0))
        self.assertEqual(kept.news(), (((None, 0), (None, 1)), ((0, 0), (0, 1))))
        self.assertIsNone(kept.undo())
        self.assertEqual(kept.news(), (((0, 0), (0, 1)), ((None, 0), (None, 1))))
        kept.take(0, 0)
        self.assertEqual(kept.put(0, (5, 6)), 1)
        self.assertEqual(kept.rows(0), ((1, (5, 6)),))
        self.assertEqual(kept.rows(1), ((0, (6, 7)), (1, (6, 8))))
        self.assertEqual(kept.whole(), ((1, 0), (1, 1)))
        self.assertEqual(kept.data(), (((5, 6),), ((6, 7), (6, 8))))

    def test_arguments_by_name(self):
        kept = Kept(book=AB_BC)
        self.assertEqual(kept.put(source=0, row=(1, 2)), 0)
        self.assertEqual(kept.rows(source=0), ((0, (1, 2)),))
        self.assertIsNone(kept.take(source=0, tag=0))
        self.assertIsNone(kept.undo())
        self.assertIsNone(kept.redo())

    def test_nothing_at_the_beginning(self):
        kept = Kept(TWELVE)
        self.assertEqual(kept.whole(), ())
        self.assertEqual(kept.data(), ((),) * 12)
        self.assertEqual([kept.rows(s) for s in range(12)], [()] * 12)
        self.assertEqual(kept.news(), ((), ()))

    def test_a_row_that_joins_pieces(self):
        kept = filled_kept(AB_BC_CD, (((5, 1),), (), ((2, 7),)))
        kept.put(1, (1, 2))
        self.assertEqual(kept.news(), (((0, 0, 0),), ((None, None, 0), (0, None, None))))
        kept.take(1, 0)
        self.assertEqual(kept.news(), (((None, None, 0), (0, None, None)), ((0, 0, 0),)))

    def test_pieces_that_lie_in_other_lots_do_not_come(self):
        kept = filled_kept(AB_BC, (((5, 1), (6, 1)), ((1, 2),)))
        self.assertEqual(kept.whole(), ((0, 0), (1, 0)))
        kept.take(0, 0)
        self.assertEqual(kept.news(), ((), ((0, 0),)))


class Runs(Case):

    def drawn(self, random, book, find, steps, worths):
        kept, own = Kept(book), Own(book, find)
        for _ in range(steps):
            deed = random.choice(("put", "put", "put", "take", "undo", "undo", "redo"))
            source = random.randrange(len(book))
            row = tuple(random.randrange(worths) for _ in book[source])
            there = own.rows[source]
            before = all_told(kept, book)
            if deed == "put" and row in there.values():
                tag = [tag for tag, other in there.items() if other == row][0]
                self.refused(HasRow, tag, kept.put, source, row)
            elif deed == "put":
                self.assertEqual(kept.put(source, row), own.put(source, row))
            elif deed == "take" and not there:
                self.refused(NoRow, (source, 0), kept.take, source, 0)
            elif deed == "take":
                tag = random.choice(sorted(there))
                kept.take(source, tag)
                own.take(source, tag)
            elif deed == "undo" and own.behind:
                kept.undo()
                own.undo()
            elif deed == "redo" and own.before:
                kept.redo()
                own.redo()
            else:
                error = NothingToUndo if deed == "undo" else NothingToRedo
                self.refused(error, 0, kept.undo if deed == "undo" else kept.redo)
                self.assertEqual(all_told(kept, book), before)
            self.assertEqual(kept.whole(), own.whole())
            self.assertEqual(kept.data(), as_data(own.rows))
            self.assertEqual([kept.rows(s) for s in range(len(book))], [tuple(sorted(t.items())) for t in own.rows])
            self.assertEqual(kept.news(), own.news)

    def test_beside_plain_wholes(self):
        random = Random(48)
        for _ in range(25):
            self.drawn(random, random_book(random, 4, 5, 3), plain_whole, 40, 2)

    def test_long_runs(self):
        random = Random(49)
        rings = (TRIANGLE, AB_BC_CD, APART, F, ((0, 1), (1, 2), (2, 3), (0, 3)), ((0,), (0,), (0, 1)))
        for book in rings + tuple(random_book(random, 6, 9, 3) for _ in range(12)):
            self.drawn(random, book, whole, 250, random.choice((2, 3)))

    def test_twelve_sources(self):
        random = Random(50)
        for book in (TWELVE, random_book(random, 12, 14, 3)):
            self.drawn(random, book, whole, 250, 2)

    def test_equal_runs_tell_the_same(self):
        one, two = Kept(F), Kept(F)
        for kept in (one, two):
            random = Random(51)
            for _ in range(60):
                source = random.randrange(4)
                try:
                    kept.put(source, tuple(random.randrange(2) for _ in range(3)))
                except HasRow as error:
                    kept.take(source, error.what)
        self.assertEqual(all_told(one, F), all_told(two, F))


class Tags(Case):

    def test_tags_are_not_given_again(self):
        kept = Kept(((0,), (0,)))
        self.assertEqual([kept.put(0, (w,)) for w in range(3)], [0, 1, 2])
        kept.take(0, 2)
        self.assertEqual(kept.put(0, (2,)), 3)
        kept.undo()
        self.assertEqual(kept.put(0, (9,)), 4)
        self.assertEqual(kept.put(1, (9,)), 0)
        kept.undo()
        kept.undo()
        kept.undo()
        self.assertEqual(kept.rows(0), ((0, (0,)), (1, (1,)), (2, (2,))))
        self.assertEqual(kept.put(0, (7,)), 5)

    def test_a_row_that_comes_back_has_its_tag(self):
        kept = Kept(((0,),))
        for worth in range(3):
            kept.put(0, (worth,))
        kept.take(0, 1)
        kept.undo()
        self.assertEqual(kept.rows(0), ((0, (0,)), (1, (1,)), (2, (2,))))
        self.assertEqual(kept.data(), (((0,), (1,), (2,)),))
        for _ in range(3):
            kept.undo()
        for _ in range(3):
            kept.redo()
        self.assertEqual(kept.rows(0), ((0, (0,)), (1, (1,)), (2, (2,))))
        self.assertEqual(kept.whole(), ((0,), (1,), (2,)))

    def test_a_refused_put_uses_no_tag(self):
        kept = Kept(((0,),))
        kept.put(0, (1,))
        self.refused(HasRow, 0, kept.put, 0, (1,))
        self.refused(BadRow, -1, kept.put, 0, (1000000,))
        self.assertEqual(kept.put(0, (2,)), 1)

    def test_tags_above_those_of_data(self):
        kept = Kept(((0,), (0, 1)))
        kept.put(1, (5, 5))
        for number in range(200):
            self.assertEqual(kept.put(0, (5,)), number)
            self.assertEqual(kept.whole(), ((number, 0),))
            kept.take(0, number)
        self.assertEqual(kept.data(), ((), ((5, 5),)))


class Undoing(Case):

    def test_the_last_100(self):
        kept = Kept(((0,), (0,)))
        for number in range(130):
            if number % 5 < 3:
                kept.put(0, (number,))
            else:
                kept.take(0, kept.rows(0)[0][0])
        last = all_told(kept, ((0,), (0,)))
        states = [kept.whole()]
        for _ in range(100):
            kept.undo()
            states.append(kept.whole())
        self.refused(NothingToUndo, 0, kept.undo)
        self.assertEqual(kept.whole(), states[-1])
        self.assertEqual(len(kept.rows(0)), 6)
        for state in states[-2::-1]:
            kept.redo()
            self.assertEqual(kept.whole(), state)
        self.refused(NothingToRedo, 0, kept.redo)
        self.assertEqual(all_told(kept, ((0,), (0,))), last)
        for _ in range(100):
            kept.undo()
        self.refused(NothingToUndo, 0, kept.undo)

    def test_exactly_100_and_one_more(self):
        for many in (100, 101):
            kept = Kept(((0,), (0,), (0,)))
            for number in range(many):
                kept.put(number % 3, (number,))
            for _ in range(100):
                kept.undo()
            self.refused(NothingToUndo, 0, kept.undo)
            self.assertEqual(len(kept.whole()), many - 100)

    def test_elder_ones_stay_forgotten(self):
        kept = Kept(((0,), (0,), (0,), (0,)))
        for number in range(120):
            kept.put(number % 4, (number,))
        for _ in range(60):
            kept.undo()
        kept.put(0, (500,))
        for _ in range(41):
            kept.undo()
        self.refused(NothingToUndo, 0, kept.undo)
        self.assertEqual(len(kept.whole()), 20)

    def test_a_granted_change_empties_what_can_be_done_again(self):
        kept = Kept(AB_BC)
        kept.put(0, (1, 2))
        kept.put(0, (1, 3))
        kept.undo()
        kept.put(1, (2, 2))
        self.refused(NothingToRedo, 0, kept.redo)
        kept.undo()
        kept.take(0, 0)
        self.refused(NothingToRedo, 0, kept.redo)

    def test_what_is_refused_empties_nothing(self):
        kept = Kept(AB_BC)
        kept.put(0, (1, 2))
        kept.put(0, (1, 3))
        kept.undo()
        news = kept.news()
        self.refused(HasRow, 0, kept.put, 0, (1, 2))
        self.refused(NoRow, (0, 1), kept.take, 0, 1)
        self.refused(BadRow, -1, kept.put, 0, (1,))
        self.assertEqual(kept.news(), news)
        kept.redo()
        self.assertEqual(kept.rows(0), ((0, (1, 2)), (1, (1, 3))))
        self.refused(NothingToRedo, 0, kept.redo)
        kept.undo()
        kept.undo()
        self.refused(NothingToUndo, 0, kept.undo)


class Limits(Case):

    def test_forty_rows_and_one_more(self):
        kept = Kept(AB_BC)
        for worth in range(40):
            self.assertEqual(kept.put(0, (worth, 5)), worth)
        self.refused(Full, 0, kept.put, 0, (40, 5))
        self.refused(HasRow, 39, kept.put, 0, (39, 5))
        self.refused(BadRow, -1, kept.put, 0, (40,))
        self.assertEqual(kept.put(1, (5, 5)), 0)
        kept.take(0, 7)
        self.assertEqual(kept.put(0, (40, 5)), 40)
        self.refused(Full, 0, kept.put, 0, (7, 5))
        kept.undo()
        kept.undo()
        self.assertEqual(len(kept.rows(0)), 40)
        self.refused(Full, 0, kept.put, 0, (41, 5))

    def test_3000_lots_and_more(self):
        book, data = meeting((40, 25, 3, 0))
        kept = filled_kept(book, data)
        self.assertEqual(kept.whole(), whole(book, data))
        self.assertEqual(len(kept.whole()), 3000)
        before = all_told(kept, book)
        self.refused(TooMany, 3000, kept.put, 1, (7, 99))
        self.refused(TooMany, 3000, kept.put, 3, (8, 0))
        self.assertEqual(all_told(kept, book), before)
        self.assertEqual(kept.put(3, (7, 0)), 0)
        self.assertEqual(len(kept.whole()), 3000)
        kept.take(0, 0)
        self.assertEqual(len(kept.whole()), 39 * 75)
        self.assertEqual(kept.put(3, (9, 9)), 1)
        self.refused(TooMany, 3000, kept.put, 0, (7, 0))
        self.assertEqual(kept.put(1, (6, 6)), 25)

    def test_a_take_that_is_refused(self):
        # One row holds two stars together, of 1 and of 1600 lots; 1399 more are apart: 39 * 35 and 34.
        book = ((0, 2), (0, 3), (0, 1), (1, 4), (1, 5), (6, 7), (6, 8), (9,))
        kept = Kept(book)
        kept.put(2, (0, 0))
        kept.put(0, (0, 0))
        for number in range(40):
            kept.put(3, (0, number))
            kept.put(4, (0, number))
        for number in range(39):
            kept.put(5, (0, number))
        for number in range(35):
            kept.put(6, (0, number))
        for number in range(35):
            kept.put(7, (number,))
        self.assertEqual(len(kept.whole()), 3000)
        before = all_told(kept, book)
        self.refused(TooMany, 3000, kept.take, 2, 0)
        self.assertEqual(all_told(kept, book), before)
        kept.take(7, 3)
        kept.take(2, 0)
        self.assertEqual(len(kept.whole()), 3000)
        self.refused(TooMany, 3000, kept.put, 7, (3,))
        kept.undo()
        self.assertEqual(len(kept.whole()), 2999)

    def test_far_too_many(self):
        began = perf_counter()
        book = tuple((0, k + 1) for k in range(12))
        kept = Kept(book)
        for source in range(11):
            kept.put(source, (source, 0))
            for worth in range(20):
                kept.put(source, (100 if source < 2 else 200 + source, worth))
        lots = kept.whole()
        self.assertEqual(len(lots), 11 + 400 + 9 * 20)
        for _ in range(20):
            self.assertEqual(len(lots), len(kept.whole()))
            kept.put(11, (100, 5))
            kept.undo()
        kept = Kept(book)
        for source in range(12):
            kept.put(source, (7, 0))
        refusals = 0
        for worth in range(1, 40):
            for source in range(12):
                try:
                    kept.put(source, (7, worth))
                except TooMany as error:
                    self.assertEqual(error.what, 3000)
                    refusals += 1
        self.assertGreater(refusals, 400)
        self.assertLessEqual(len(kept.whole()), 3000)
        self.assertLess(perf_counter() - began, 60)

    def test_undo_leads_to_3000_lots(self):
        book, data = meeting((40, 25, 3))
        kept = filled_kept(book, data)
        kept.take(0, 0)
        kept.undo()
        self.assertEqual(len(kept.whole()), 3000)
        kept.redo()
        self.assertEqual(len(kept.whole()), 39 * 75)

    def test_300_lots_with_hundreds_of_changes_quickly(self):
        random = Random(52)
        star = tuple((0, k + 1) for k in range(3))
        began = perf_counter()
        for book, rows in (
            (star, lambda s: (7, random.randrange(1000))),
            (TWELVE, lambda s: (random.randrange(8), random.randrange(8))),
            (AB_BC_CD, lambda s: (random.randrange(6), random.randrange(6))),
        ):
            kept = Kept(book)
            most = 0
            for _ in range(600):
                source = random.randrange(len(book))
                there = kept.rows(source)
                if random.random() < 0.6 and len(there) < (20, 15, 1)[source % 3]:
                    try:
                        kept.put(source, rows(source))
                    except Refused:
                        pass
                elif there:
                    kept.take(source, random.choice(there)[0])
                most = max(most, len(kept.whole()))
            self.assertGreaterEqual(most, 12)
            there = [dict(kept.rows(source)) for source in range(len(book))]
            self.assertEqual(kept.whole(), led_over(whole(book, kept.data()), there))
        self.assertLess(perf_counter() - began, 20)


class Refusals(Case):

    def test_books(self):
        self.refused(BadBook, -1, Kept, ())
        self.refused(BadBook, 1, Kept, ((0,), (1, 0)))
        for thing in ODD:
            self.assertRaises(BadBook, Kept, thing)

    def test_order_of_refusals(self):
        kept = Kept(AB_BC)
        kept.put(0, (1, 2))
        self.refused(BadSource, 2, kept.put, 2, None)
        self.refused(BadSource, -1, kept.put, -1, (1, 2))
        self.refused(BadSource, 2, kept.rows, 2)
        for row in ((1,), (1, 2, 3), (1, -1), (1, 1000000), (1, True), (1, None), None, [1, 2], ((1, 2),)):
            self.refused(BadRow, -1, kept.put, 0, row)
        self.assertEqual(kept.put(0, (0, 999999)), 1)
        for source, tag in ((0, 2), (0, -1), (2, 0), (-1, 0), (1, 0), (None, None), (0, None), ("0", 0), (0, (0,))):
            self.refused(NoRow, (source, tag), kept.take, source, tag)

    def test_odd_values(self):
        kept = Kept(TRIANGLE)
        kept.put(0, (0, 0))
        before = all_told(kept, TRIANGLE)
        for thing in ODD:
            if repr(thing) not in ("(0, 0)", "(1, 0)"):
                self.refused(BadRow, -1, kept.put, 1, thing)
            if thing is True or thing is False or not isinstance(thing, int):
                self.refused(BadSource, thing, kept.put, thing, thing)
                self.refused(BadSource, thing, kept.rows, thing)
                self.refused(NoRow, (thing, 0), kept.take, thing, 0)
                self.refused(NoRow, (0, thing), kept.take, 0, thing)
            if thing != 0:
                self.refused(NoRow, (0, thing), kept.take, 0, thing)
        self.assertEqual(all_told(kept, TRIANGLE), before)
        kept.undo()
        self.refused(NothingToUndo, 0, kept.undo)


if __name__ == "__main__":
    unittest.main()
