"""[66] to [69]: the desk."""

import unittest
from random import Random
from time import perf_counter

from behindboth.counts import count, nth
from behindboth.desk import Desk, desk_of
from behindboth.errors import BadHouse, BadText, NoName, Refused, TooMany, Twice
from behindboth.housetexts import read_house
from behindboth.judge import judged
from behindboth.kept import Kept
from behindboth.mends import mends
from behindboth.orders import order, stuck
from behindboth.rings import why
from behindboth.thirds import thirds
from behindboth.whole import whole
from helpers import ODD, Case, in_order, plain_run, plain_shown
from test_bare import coverers
from test_kept import Own, led_over
from test_questions import plain_keeps
from texts import (
    NOWHERE, Slot, data_slots, house_question, house_rule, judged_slots, order_slots, other, own_book, own_text,
    plan_slots, question_slots, random_house, row_slots, rule_slots, source_names, spread, tight, whole_plan, why_slots,
    words_of,
)

HOUSE_TEXT = "people: id name; calls: id day; days: day word"
HOUSE = (("id", "name", "day", "word"), (("people", (0, 1)), ("calls", (0, 2)), ("days", (2, 3))))
F_TEXT = "a: s p q; b: s p r; c: s u v; d: s u w"
EXAMPLES = (
    ("put people 1 10", "ok 0"), ("put calls 1 5", "ok 0"),
    ("news", "came people 0 calls 0: 1 10 5 -; went people 0: 1 10 - -"), ("put people 1 10", "refused: HasRow 0"),
    ("take people 0", "ok"), ("rows", "calls 0: 1 - 5 -"),
    ("news", "came calls 0: 1 - 5 -; went people 0 calls 0: 1 10 5 -"), ("undo", "ok"),
    ("data", "people: 1 10; calls: 1 5"), ("run (people (calls days)) by no", "people 0 calls 0: 1 10 5 -"),
    ("rows where day = 6", "none"), ("back people", "1 10"), ("judge ((people calls) days)", "right: id | day"),
    ("thirds", "none"), ("count", "2"), ("nth 1", "((people calls) days)"), ("nth 2", "refused: BadNumber 2"),
    ("mends", "people name | days word"), ("take days 3", "refused: NoRow 2 3"),
    ("run (people calls)", "refused: Lacking 2"), ("rows of people days", "refused: Apart 2"),
    ("put people 1", "refused: BadText 12"), ("jump", "refused: BadText 0"),
)
KINDS = "put put put put take take undo undo redo rows rows run news data back judge why order thirds count nth mends"


def said(error):
    what = " ".join(map(str, error.what)) if isinstance(error.what, tuple) else str(error.what)
    return f"refused: {error.__class__.__name__} {what}"


def all_told(desk):
    kept = desk.kept
    return desk.text(), kept.whole(), kept.news(), tuple(kept.rows(s) for s in range(len(desk.book)))


class OwnDesk:
    """Plain own bookkeeping for a desk: what each row has to be answered."""

    def __init__(self, house):
        self.house = house
        self.book = own_book(house)
        self.own = Own(self.book)
        self.ever = [{} for _ in self.book]

    def answer(self, kind, *told):
        try:
            return getattr(self, kind)(*told)
        except Refused as error:
            return said(error)

    def shown(self, lots, rows=None):
        """Lots by the tags of rows, as a text."""
        columns = range(len(self.house[0]))
        texts = []
        for lot in sorted(lots, key=in_order):
            worths = plain_shown(self.book, rows or self.ever, lot)
            names = " ".join(f"{name} {tag}" for name, tag in zip(source_names(self.house), lot) if tag is not None)
            texts.append(f"{names}: " + " ".join(str(worths.get(column, "-")) for column in columns))
        return " | ".join(texts) or "none"

    def names(self, sources):
        return " ".join(source_names(self.house)[source] for source in sources)

    def data_there(self, group=None):
        return tuple(
            tuple(row for _, row in sorted(there.items())) if group is None or source in group else ()
            for source, there in enumerate(self.own.rows)
        )

    def put(self, source, row):
        there = self.own.rows[source]
        if row in there.values():
            return f"refused: HasRow {[tag for tag in there if there[tag] == row][0]}"
        if len(there) == 40:
            return f"refused: Full {source}"
        tag = self.own.put(source, row)
        self.ever[source][tag] = row
        return f"ok {tag}"

    def take(self, source, tag):
        if tag not in self.own.rows[source]:
            return f"refused: NoRow {source} {tag}"
        self.own.take(source, tag)
        return "ok"

    def undo(self):
        if not self.own.behind:
            return "refused: NothingToUndo 0"
        self.own.undo()
        return "ok"

    def redo(self):
        if not self.own.before:
            return "refused: NothingToRedo 0"
        self.own.redo()
        return "ok"

    def rows(self, question):
        lots = led_over(whole(self.book, self.data_there(question[0] or None)), [
            there if not question[0] or source in question[0] else {} for source, there in enumerate(self.own.rows)
        ])
        return self.shown([lot for lot in lots if plain_keeps(self.book, self.ever, lot, question)])

    def run(self, plan, rule):
        return self.shown(led_over(plain_run(self.book, self.data_there(), plan, rule)[1], self.own.rows))

    def news(self):
        come, gone = self.own.news
        return f"came {self.shown(come)}; went {self.shown(gone)}"

    def data(self):
        parts = [(source, rows) for source, rows in enumerate(self.data_there()) if rows]
        return own_text(words_of(data_slots(self.house, parts))) or "none"

    def back(self, source):
        if list(coverers(self.book, source)):
            return f"refused: Covered {source}"
        return ", ".join(" ".join(map(str, row)) for row in sorted(self.own.rows[source].values())) or "none"

    def judge(self, plan):
        return own_text(words_of(judged_slots(self.house, judged(self.book, plan))))

    def why(self):
        return own_text(words_of(why_slots(self.house, why(self.book))))

    def order(self):
        found = order(self.book)
        if found is None:
            return f"stuck {self.names(stuck(self.book))}"
        return "order " + own_text(words_of(order_slots(self.house, found)))

    def thirds(self):
        return " | ".join(map(self.names, thirds(self.book))) or "none"

    def count(self):
        return str(count(self.book))

    def nth(self, number):
        return own_text(words_of(plan_slots(self.house, nth(self.book, number))))

    def mends(self):
        found = mends(self.book)
        return " | ".join(f"{source_names(self.house)[s]} {self.house[0][c]}" for s, c in found) or "none"


def drawn_row(random, house, own):
    """A row of text as words, and what is told by it: its kind and the arguments."""
    kind = random.choice(KINDS.split())
    source = random.randrange(len(house[1]))
    name = Slot(source_names(house)[source], "source")
    if kind == "put":
        row = tuple(random.choice((0, 1, 1, 999999)) for _ in house[1][source][1])
        return other("put") + [name] + row_slots(row), (source, row)
    if kind == "take":
        there = sorted(own.own.rows[source])
        tag = random.choice(there) if there and random.random() < 0.8 else random.choice((0, 7, 999999))
        return other("take") + [name, Slot(str(tag), "figures")], (source, tag)
    if kind == "rows":
        question = house_question(random, house)
        return question_slots(house, question), (question,)
    if kind == "run":
        plan, rule = whole_plan(random, house), house_rule(random, house)
        by = random.random() < 0.7
        slots = other("run") + plan_slots(house, plan)
        behind = other("by", ends=True) + [slot for slot in rule_slots(house, rule)]
        return slots + behind * by, (plan, rule if by else ())
    if kind == "judge":
        plan = whole_plan(random, house)
        return other("judge") + plan_slots(house, plan), (plan,)
    if kind == "back":
        return other("back") + [name], (source,)
    if kind == "nth":
        number = random.choice((0, 0, 1, 2, 5, 999999))
        return other("nth") + [Slot(str(number), "figures")], (number,)
    return other(kind), ()


class Examples(Case):

    def test_the_examples(self):
        desk = Desk(HOUSE)
        for row, answer in EXAMPLES:
            self.assertEqual(desk.row(row), answer, row)

    def test_attributes_and_names(self):
        desk = Desk(house=HOUSE)
        self.assertEqual(desk.house, HOUSE)
        self.assertEqual(desk.book, ((0, 1), (0, 2), (2, 3)))
        self.assertIsInstance(desk.kept, Kept)
        self.assertEqual(desk.text(), (HOUSE_TEXT, ""))
        self.assertEqual(desk.row(text="put people 1 10"), "ok 0")
        self.assertEqual(desk.text(), (HOUSE_TEXT, "people: 1 10"))
        self.assertEqual(desk.kept.whole(), ((0, None, None),))

    def test_nothing_yet(self):
        desk = Desk(HOUSE)
        for row, answer in (
            ("news", "came none; went none"), ("data", "none"), ("rows", "none"), ("back days", "none"),
            ("run ((days calls) people)", "none"), ("undo", "refused: NothingToUndo 0"),
            ("redo", "refused: NothingToRedo 0"), ("take people 0", "refused: NoRow 0 0"),
        ):
            self.assertEqual(desk.row(row), answer)

    def test_no_order_and_rings(self):
        desk = Desk(read_house(F_TEXT))
        for row, answer in (
            ("order", "stuck a b c d"), ("thirds", "a b c | a b d | c d a | c d b"), ("count", "1"),
            ("nth 0", "((a b) (c d))"), ("judge ((b a) (d c))", "right: s p | s u | s"),
        ):
            self.assertEqual(desk.row(row), answer)
        self.assertIn(desk.row("why"), ("why", "plan ((a b) (c d))", "plan ((c d) (a b))"))
        desk = Desk(read_house("a: x y; b: y z; c: z x"))
        self.assertEqual(desk.row("why").split()[0], "ring")
        self.assertEqual(desk.row("mends"), "a x | a y | b y | b z | c x | c z")
        self.assertEqual(desk.row("back b"), "refused: Covered 1")
        self.assertEqual(desk.row("count"), "0")
        self.assertEqual(desk.row("nth 0"), "refused: BadNumber 0")

    def test_run_by_a_rule(self):
        desk = Desk(read_house("a: x y; b: x z; c: y z"))
        for row in ("put a 3 4", "put c 4 9"):
            self.assertEqual(desk.row(row), "ok 0")
        apart, together = "c 0: - 4 9 | a 0: 3 4 -", "a 0 c 0: 3 4 9"
        for rule, answer in (
            ("", apart), (" by", apart), (" by ", apart), (" by yes", together), (" by no; yes", apart),
            (" by yes if fork 1 and both y", together), (" by yes if none x", apart), (" by yes if worth y 5", apart),
        ):
            self.assertEqual(desk.row("run ((a b) c)" + rule), answer)

    def test_tags_of_the_kept(self):
        desk = Desk(HOUSE)
        desk.row("put people 1 10")
        desk.row("put people 2 20")
        desk.row("take people 0")
        desk.row("put calls 2 5")
        self.assertEqual(desk.row("rows"), "people 1 calls 0: 2 20 5 -")
        self.assertEqual(desk.row("run ((people calls) days)"), "people 1 calls 0: 2 20 5 -")
        self.assertEqual(desk.row("rows of people"), "people 1: 2 20 - -")
        self.assertEqual(desk.row("put people 1 10"), "ok 2")
        self.assertEqual(desk.row("data"), "people: 2 20, 1 10; calls: 2 5")
        self.assertEqual(desk.row("back people"), "1 10, 2 20")

    def test_news_of_what_is_done_beside_the_desk(self):
        desk = Desk(HOUSE)
        desk.kept.put(0, (1, 10))
        self.assertEqual(desk.row("news"), "came people 0: 1 10 - -; went none")
        desk.kept.take(0, 0)
        self.assertEqual(desk.row("news"), "came none; went people 0: 1 10 - -")
        desk.kept.undo()
        desk.kept.undo()
        self.assertEqual(desk.row("news"), "came none; went people 0: 1 10 - -")


class Refused67(Case):

    def test_words_are_read_to_the_end_ahead_of_all_else(self):
        desk = Desk(HOUSE)
        desk.row("put people 1 10")
        before = all_told(desk)
        for row, answer in (
            ("", "BadText 0"), ("  ", "BadText 2"), ("Rows", "BadText 0"), ("people", "BadText 0"), ("put", "BadText 3"),
            ("put nobody 1", "NoName 4"), ("put people 1 10 5", "BadText 16"), ("put people 01 10", "BadText 11"),
            ("put people 1 1000000", "BadText 13"), ("put people 2 20 ;", "BadText 16"), ("put 1 10", "BadText 4"),
            ("take people", "BadText 11"), ("take people x", "BadText 12"), ("take people 0 0", "BadText 14"),
            ("take nobody 0", "NoName 5"), ("undo undo", "BadText 5"), ("undo 1", "BadText 5"), ("redo all", "BadText 5"),
            ("news 1", "BadText 5"), ("data people", "BadText 5"), ("back", "BadText 4"), ("back id", "NoName 5"),
            ("back people calls", "BadText 12"), ("why not", "BadText 4"), ("order by", "BadText 6"),
            ("thirds Q", "BadText 7"), ("count 1", "BadText 6"), ("nth", "BadText 3"), ("nth 01", "BadText 4"),
            ("nth 0 0", "BadText 6"), ("nth x", "BadText 4"), ("mends people", "BadText 6"), ("judge", "BadText 5"),
            ("judge people", "Lacking 1"), ("judge (people people)", "Twice 14"), ("judge people calls", "BadText 13"),
            ("run people by maybe", "BadText 14"), ("run people by yes if left people", "NoName 26"),
            ("run people by yes", "Lacking 1"), ("run people with yes", "BadText 11"), ("run (people days) by", "Lacking 1"),
            ("run ((people calls) days) by yes;", "BadText 33"), ("run ((people calls) days) yes", "BadText 26"),
            ("rows of days people with Q", "Apart 2"), ("rows with id", "NoName 10"), ("rows of people with days", "BadText 20"),
            ("rows with days days", "Twice 15"), ("take people 5\n", "BadText 13"), ("jump\x7f", "BadText 4"),
            ("PUT people 3 3", "BadText 0"), ("take calls 0", "NoRow 1 0"), ("nth 999999", "BadNumber 999999"),
            ("take people 999999", "NoRow 0 999999"), ("put people 1 10", "HasRow 0"), ("redo", "NothingToRedo 0"),
        ):
            self.assertEqual(desk.row(row), f"refused: {answer}", row)
            self.assertEqual(all_told(desk), before)
        self.assertEqual(desk.row("undo"), "ok")
        self.assertEqual(desk.row("take people 0 0"), "refused: BadText 14")
        self.assertEqual(desk.row("redo"), "ok")

    def test_books_of_which_not_all_can_be_asked(self):
        desk = Desk(read_house("a: x; b: y"))
        for row in ("judge (a b)", "why", "order", "thirds", "count", "nth 0", "mends"):
            self.assertEqual(desk.row(row), "refused: Apart 1")
        self.assertEqual(desk.row("judge a"), "refused: Lacking 1")
        desk.row("put a 1")
        desk.row("put b 1")
        self.assertEqual(desk.row("run (a b)"), "b 0: - 1 | a 0: 1 -")
        self.assertEqual(desk.row("rows of a b"), "refused: Apart 1")
        desk = Desk(read_house("; ".join(f"s{k}: x y{k}" for k in range(9))))
        self.assertEqual(desk.row("count"), "refused: TooMany 9")
        self.assertEqual(desk.row("nth 0"), "refused: TooMany 9")
        text = "; ".join(f"s{k}: " + " ".join(f"c{n}" for n in range(7 * k, min(7 * k + 8, 24))) for k in range(4))
        self.assertEqual(Desk(read_house(text)).row("mends"), "refused: TooMany 24")

    def test_full_and_too_many(self):
        desk = Desk(read_house("a: x y; b: x z; c: x w"))
        for number in range(40):
            self.assertEqual(desk.row(f"put a 7 {number}"), f"ok {number}")
        self.assertEqual(desk.row("put a 7 40"), "refused: Full 0")
        self.assertEqual(desk.row("put a 7 39"), "refused: HasRow 39")
        for number in range(25):
            desk.row(f"put b 7 {number}")
        for number in range(3):
            desk.row(f"put c 7 {number}")
        before = all_told(desk)
        self.assertEqual(len(before[1]), 3000)
        self.assertEqual(desk.row("put c 8 0"), "refused: TooMany 3000")
        self.assertEqual(all_told(desk), before)
        self.assertEqual(desk.row("rows").count(" | "), 2999)
        self.assertEqual(desk.row("take c 1"), "ok")
        self.assertEqual(desk.row("run ((a b) c)").count(" | "), 1999)

    def test_any_text_is_answered(self):
        random = Random(67)
        desk = Desk(HOUSE)
        signs = "".join(map(chr, range(300))) + "\u0660\ud800\U0001f600" + "(),:;|= " * 9
        words = "put take rows of with without where and people calls days id 0 1 999999 run by yes no if ( ) , : =".split()
        began = perf_counter()
        for number in range(6000):
            if number % 2:
                text = " ".join(random.choice(words) for _ in range(random.randint(0, 12)))
            else:
                text = random.choice(("", "put ", "rows ", "run ")) + "".join(
                    random.choice(signs) for _ in range(random.choice((1, 3, 10, 40)))
                )
            self.assertIsInstance(desk.row(text), str)
        for text in ("(" * 19996, "x" * 19996, "people " * 2000, "1" * 19996, " " * 10 ** 6, "\n" * 10 ** 6, "=" * 10 ** 6):
            for start in ("", "run ", "rows of ", "put people ", "nth ", "judge ", "run people by "):
                self.assertRegex(desk.row(start + text), r"\Arefused: (BadText|NoName|Twice) \d+\Z")
        self.assertLess(perf_counter() - began, 30)
        self.assertEqual(desk.row("undo" + " " * 19996), "refused: NothingToUndo 0")
        self.assertEqual(desk.row("undo" + " " * 19997), "refused: BadText 20000")


class Runs(Case):

    def drawn(self, random, house, steps):
        desk, own = Desk(house), OwnDesk(house)
        for _ in range(steps):
            slots, told = drawn_row(random, house, own)
            words = words_of(slots)
            if random.random() < 0.2:
                at = random.randrange(len(words) + 1)
                early = slots[at].early if at < len(slots) else None
                wrong = words[:at] + [random.choice(NOWHERE)] + words[at + random.randrange(2):]
                answer = f"BadText {len(' '.join(words[:at])) + (at > 0)}" if early is None else f"Apart {early}"
                before = all_told(desk)
                self.assertEqual(desk.row(" ".join(wrong)), f"refused: {answer}")
                self.assertEqual(all_told(desk), before)
                continue
            text = random.choice((" ".join(words), spread(random, words), tight(words)))
            before = all_told(desk)
            answer = own.answer(words[0], *told)
            self.assertEqual(desk.row(text), answer, text)
            if words[0] not in ("put", "take", "undo", "redo") or answer.startswith("refused"):
                self.assertEqual(all_told(desk), before)
            self.assertEqual(desk.kept.whole(), own.own.whole())
            self.assertEqual(desk.text()[1], "" if own.data() == "none" else own.data())

    def test_long_runs(self):
        random = Random(68)
        for _ in range(25):
            self.drawn(random, random_house(random, 4), 100)

    def test_runs_of_houses_of_the_document(self):
        random = Random(69)
        for text in (HOUSE_TEXT, F_TEXT, "a: x y; b: y z; c: z x", "of: rows; rows: rows of", "a: x; b: x", "a: x"):
            self.drawn(random, read_house(text), 250)

    def test_twelve_sources(self):
        random = Random(70)
        text = "; ".join(f"s{k}: c{k} c{k + 1}" for k in range(12))
        self.drawn(random, read_house(text), 120)


class DeskOf(Case):

    def test_what_is_read(self):
        desk = desk_of(HOUSE_TEXT, "people: 1 10, 2 20; calls: 1 5")
        self.assertEqual(desk.house, HOUSE)
        self.assertEqual(desk.row("rows"), "people 0 calls 0: 1 10 5 - | people 1: 2 20 - -")
        self.assertEqual(desk.row("undo"), "refused: NothingToUndo 0")
        self.assertEqual(desk.row("redo"), "refused: NothingToRedo 0")
        self.assertEqual(desk.row("news"), "came none; went none")
        self.assertEqual(desk.kept.rows(0), ((0, (1, 10)), (1, (2, 20))))
        self.assertEqual(desk.row("put people 3 30"), "ok 2")
        self.assertEqual(desk.row("put people 1 10"), "refused: HasRow 0")
        self.assertEqual(desk.row("take calls 0"), "ok")
        self.assertEqual(desk.row("news"), "came people 0: 1 10 - -; went people 0 calls 0: 1 10 5 -")
        self.assertEqual(desk_of(house="a: x", data="").text(), ("a: x", ""))

    def test_there_and_back(self):
        random = Random(71)
        for _ in range(40):
            house = random_house(random, 5)
            desk, own = Desk(house), OwnDesk(house)
            for _ in range(40):
                slots, told = drawn_row(random, house, own)
                if slots[0].word in ("put", "take", "undo", "redo"):
                    self.assertEqual(desk.row(" ".join(words_of(slots))), own.answer(slots[0].word, *told))
            other_desk = desk_of(*desk.text())
            self.assertEqual(other_desk.house, house)
            self.assertEqual(other_desk.text(), desk.text())
            data = desk.kept.data()
            self.assertEqual(other_desk.kept.data(), data)
            self.assertEqual(other_desk.kept.whole(), whole(own_book(house), data))
            for source, rows in enumerate(data):
                self.assertEqual(other_desk.kept.rows(source), tuple(enumerate(rows)))
            self.assertEqual(other_desk.kept.news(), ((), ()))
            self.assertEqual(other_desk.row("undo"), "refused: NothingToUndo 0")
            self.assertEqual(other_desk.row("redo"), "refused: NothingToRedo 0")
            other_own = OwnDesk(house)
            for source, rows in enumerate(data):
                for row in rows:
                    other_own.put(source, row)
            other_own.own.behind = []
            for _ in range(15):
                slots, told = drawn_row(random, house, other_own)
                if slots[0].word != "news":
                    row = " ".join(words_of(slots))
                    self.assertEqual(other_desk.row(row), other_own.answer(slots[0].word, *told))

    def test_3000_lots_and_more(self):
        # Of the rows of all sources but the last one there are 3001 lots; its row puts two of them together.
        house = "a: x a1; b: x b1; c: y c1; d: y d1; e: z e1; f: x z"

        def star(name, many):
            return f"{name}: " + ", ".join(f"0 {number}" for number in range(many))

        rows = "; ".join((star("a", 40), star("b", 40), star("c", 40), star("d", 35), star("e", 1)))
        self.refused(TooMany, 3000, desk_of, house, rows)
        desk = desk_of(house, rows + "; f: 0 0")
        self.assertEqual(len(desk.kept.whole()), 3000)
        before = all_told(desk)
        self.assertEqual(desk.row("take f 0"), "refused: TooMany 3000")
        self.assertEqual(desk.row("put f 5 5"), "refused: TooMany 3000")
        self.assertEqual(all_told(desk), before)
        self.refused(TooMany, 3000, desk_of, house, rows + "; f: 0 0, 5 5")

    def test_order_of_refusals(self):
        self.refused(BadText, -1, desk_of, None, None)
        self.refused(BadText, 5, desk_of, "a: x;", None)
        self.refused(Twice, 6, desk_of, "a: x; a: y", "b")
        self.refused(BadText, -1, desk_of, "a: x", None)
        self.refused(NoName, 0, desk_of, "a: x", "b: 1")
        self.refused(Twice, 6, desk_of, "a: x", "a: 1, 1")
        self.refused(BadText, 8, desk_of, "a: x", "a: 1, 2 3")

    def test_houses(self):
        self.refused(BadHouse, -1, Desk, None)
        self.refused(BadHouse, 1, Desk, (HOUSE[0], HOUSE[1][:1] * 2))
        for thing in ODD:
            self.refused(BadHouse, -1, Desk, thing)


if __name__ == "__main__":
    unittest.main()
