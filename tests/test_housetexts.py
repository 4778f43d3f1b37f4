"""[54], [56], [60]: houses, and houses and data as texts."""

import unittest
from random import Random

from behindboth.books import is_book
from behindboth.errors import BadData, BadHouse, BadText, NoName, Twice
from behindboth.housetexts import book_of, made_house, print_data, print_house, read_data, read_house
from helpers import ODD, TWELVE, Case, random_book
from searches import bent
from texts import numbered, own_book, random_house, random_named

TEXT = "people: id name; calls: id day; days: day word"
HOUSE = (("id", "name", "day", "word"), (("people", (0, 1)), ("calls", (0, 2)), ("days", (2, 3))))
LETTERS = "abcdefghijklmnopqrstuvwxyz"


def is_name(thing):
    return (
        isinstance(thing, str) and 0 < len(thing) < 13 and thing not in ("with", "without", "where")
        and thing[0] in LETTERS and not set(thing) - set(LETTERS + "0123456789")
    )


def wrong_with(thing):
    """What BadHouse says of a thing, None of a house: by an own look at how columns are numbered."""
    if not isinstance(thing, tuple) or len(thing) != 2 or not all(isinstance(part, tuple) for part in thing):
        return -1
    columns, sources = thing
    if not 1 <= len(columns) <= 24 or not 1 <= len(sources) <= 12 or not all(map(is_name, columns)):
        return -1
    if len(set(columns)) < len(columns):
        return -1
    met = []
    for index, source in enumerate(sources):
        if not isinstance(source, tuple) or len(source) != 2 or not is_name(source[0]) or not is_book((source[1],)):
            return index
        if source[0] in [ahead[0] for ahead in sources[:index]]:
            return index
        for column in source[1]:
            if column not in met:
                if column != min(set(range(25)) - set(met)) or column >= len(columns):
                    return index
                met.append(column)
    return -1 if len(met) < len(columns) else None


class Houses(Case):

    def test_the_example(self):
        house = (("id", "name", "day"), (("people", (0, 1)), ("calls", (0, 2))))
        self.assertIs(made_house(house), house)
        self.assertEqual(book_of(house), ((0, 1), (0, 2)))
        self.refused(BadHouse, 0, made_house, (house[0], (("people", (0, 2)), ("calls", (0, 1)))))
        self.assertEqual(made_house(thing=house), house)
        self.assertEqual(book_of(house=house), ((0, 1), (0, 2)))

    def test_how_columns_are_numbered(self):
        names = ("a", "b", "c", "d")
        for schemes, what in (
            (((0, 1), (2, 3)), None), (((0,), (0, 1), (1, 2, 3)), None), (((0, 1, 2, 3), (3,)), None),
            (((1,), (0, 2, 3)), 0), (((0,), (2, 3), (1,)), 1), (((0, 1), (0, 3), (2,)), 1), (((0, 1), (1, 2)), -1),
            (((0, 1), (2, 3), (4,)), 2), (((0, 1), (2, 3), (3, 4)), 2), (((0, 1), (1,)), -1),
        ):
            house = (names, tuple((f"s{k}", scheme) for k, scheme in enumerate(schemes)))
            self.assertEqual(wrong_with(house), what)
            if what is None:
                self.assertEqual(made_house(house), house)
            else:
                self.refused(BadHouse, what, made_house, house)

    def test_names(self):
        for name in ("a", "z", "a" * 12, "a9", "z00000000000", "wit", "wher", "withx", "of", "rows", "none"):
            made_house(((name,), ((name, (0,)),)))
        for name in (
            "", "a" * 13, "9", "9a", "A", "aB", "a b", " a", "a_", "a-b", "with", "without", "where", "\xe9", "a\xe9",
            "a\u0660", None, 7, True, ("a",), b"a",
        ):
            self.refused(BadHouse, -1, made_house, ((name,), (("s", (0,)),)))
            self.refused(BadHouse, 0, made_house, (("a",), ((name, (0,)),)))
            self.refused(BadHouse, 1, made_house, (("a",), (("s", (0,)), (name, (0,)))))

    def test_a_source_may_be_called_as_a_column(self):
        made_house((("a", "b"), (("b", (0, 1)), ("a", (1,)))))
        self.refused(BadHouse, 1, made_house, (("a", "b"), (("b", (0, 1)), ("b", (1,)))))
        self.refused(BadHouse, -1, made_house, (("a", "a"), (("b", (0, 1)), ("b", (1,)))))

    def test_limits(self):
        names = tuple(f"c{k}" for k in range(25))
        schemes = [tuple(range(k, k + 8)) for k in (0, 8, 16)]
        sources = tuple((f"s{k}", scheme) for k, scheme in enumerate(schemes))
        self.assertEqual(made_house((names[:24], sources)), (names[:24], sources))
        self.refused(BadHouse, -1, made_house, (names, sources))
        self.refused(BadHouse, -1, made_house, (names, sources + (("t", (24,)),)))
        self.refused(BadHouse, 3, made_house, (names[:24], sources + (("t", (24,)),)))
        self.refused(BadHouse, -1, made_house, ((), sources))
        self.refused(BadHouse, 0, made_house, (names[:9], (("s", tuple(range(9))),)))
        for many in (1, 12):
            house = (("a",), tuple((f"s{k}", (0,)) for k in range(many)))
            self.assertEqual(made_house(house), house)
        self.refused(BadHouse, -1, made_house, (("a",), tuple((f"s{k}", (0,)) for k in range(13))))
        self.refused(BadHouse, -1, made_house, (("a",), ()))

    def test_beside_an_own_look(self):
        random = Random(54)
        found = {}
        for _ in range(1500):
            columns, sources = random_house(random)
            sources = list(sources)
            for _ in range(random.randint(0, 2)):
                at = random.randrange(len(sources))
                deed = random.randrange(6)
                if deed == 0:
                    columns += (random.choice(columns + ("zz",)),)
                elif deed == 1:
                    columns = columns[:-1]
                elif deed == 2:
                    sources.reverse()
                elif deed == 3:
                    sources[at] = (random.choice(sources)[0], sources[at][1])
                elif deed == 4:
                    more = set(sources[at][1]) ^ {random.randrange(25)}
                    sources[at] = (sources[at][0], tuple(sorted(more)))
                else:
                    turn = list(range(25))
                    random.shuffle(turn)
                    sources = [(name, tuple(sorted(turn[c] for c in scheme))) for name, scheme in sources]
            thing = (columns, tuple(sources))
            what = wrong_with(thing)
            found[what] = found.get(what, 0) + 1
            if what is None:
                self.assertIs(made_house(thing), thing)
                self.assertEqual(book_of(thing), own_book(thing))
            else:
                self.refused(BadHouse, what, made_house, thing)
                self.refused(BadHouse, what, book_of, thing)
                self.refused(BadHouse, what, print_house, thing)
        self.assertGreater(min(found[None], found[-1], found[0], found[1]), 50)

    def test_bent_houses(self):
        for thing in bent(HOUSE):
            what = wrong_with(thing)
            if what is None:
                self.assertEqual(made_house(thing), thing)
            else:
                self.refused(BadHouse, what, made_house, thing)

    def test_odd_values(self):
        for thing in ODD:
            for function in (made_house, book_of, print_house):
                self.refused(BadHouse, -1, function, thing)
            self.refused(BadHouse, -1, made_house, (thing, HOUSE[1]))
            if thing != "plan":
                self.refused(BadHouse, -1, made_house, ((thing,), HOUSE[1]))
            self.refused(BadHouse, 0, made_house, (HOUSE[0], (thing,)))
            self.refused(BadHouse, 1, made_house, (HOUSE[0], HOUSE[1][:1] + (("calls", thing),)))
            self.refused(BadHouse, -1, read_data, thing, thing)
            self.refused(BadHouse, -1, print_data, thing, thing)


class HouseTexts(Case):

    def test_the_examples(self):
        self.assertEqual(read_house(TEXT), HOUSE)
        self.assertEqual(book_of(HOUSE), ((0, 1), (0, 2), (2, 3)))
        self.assertEqual(print_house(HOUSE), TEXT)
        house = read_house("b: x z; a: z y x")
        self.assertEqual(house, (("x", "z", "y"), (("b", (0, 1)), ("a", (0, 1, 2)))))
        self.assertEqual(print_house(house), "b: x z; a: x z y")
        self.refused(Twice, 6, read_house, "a: x; a: y")
        self.refused(Twice, 7, read_house, "a: x y x")
        self.refused(BadText, 5, read_house, "a: x;")
        self.refused(BadText, 19, read_house, "a: b c d e f g h i b")
        self.assertEqual(read_house(text=TEXT), HOUSE)
        self.assertEqual(print_house(house=HOUSE), TEXT)

    def test_drawn_texts(self):
        random = Random(56)
        for _ in range(300):
            named = random_named(random, random_book(random, 12, 24, 8))
            house = read_house("; ".join(f"{name}: {' '.join(columns)}" for name, columns in named))
            self.assertEqual(house, numbered(named))
            self.assertIs(made_house(house), house)
            self.assertEqual(read_house(print_house(house)), house)

    def test_eight_columns_and_nine(self):
        eight = "a: b c d e f g h i"
        self.assertEqual(read_house(eight)[1], (("a", tuple(range(8))),))
        for ninth in ("j", "b", "i", "a"):
            self.refused(BadText, len(eight) + 1, read_house, f"{eight} {ninth}")
        self.refused(Twice, 17, read_house, "a: b c d e f g h b")
        self.refused(BadText, 27, read_house, "x: k; a: b c d e f g h i;  Q")

    def test_24_columns_and_25(self):
        full = "; ".join(f"s{k}: " + " ".join(f"c{n}" for n in range(8 * k, 8 * k + 8)) for k in range(3))
        self.assertEqual(read_house(full)[0], tuple(f"c{n}" for n in range(24)))
        self.assertEqual(read_house(full + "; t: c23 c0")[1][3], ("t", (0, 23)))
        self.refused(BadText, len(full) + 5, read_house, full + "; t: c24")
        self.refused(BadText, len(full) + 8, read_house, full + "; t: c5 c24")
        self.refused(Twice, len(full) + 8, read_house, full + "; t: c5 c5 c24")

    def test_12_sources_and_13(self):
        text = "; ".join(f"s{k}: a" for k in range(12))
        self.assertEqual(len(read_house(text)[1]), 12)
        # A further source cannot stand: its first word is its name, also if it stands ahead.
        for name in ("t", "s0", "a"):
            self.refused(BadText, len(text) + 2, read_house, f"{text}; {name}: a")
        self.refused(BadText, len(text) + 1, read_house, text + ";")

    def test_first_wrong_words(self):
        for text, place in (
            ("", 0), ("   ", 3), (":", 0), ("a", 1), ("a b", 2), ("a:", 2), ("a::", 2), ("a: with", 3), ("with: a", 0),
            ("where", 0), ("a: 9", 3), ("a: b, c", 4), ("a: b c; ; d: e", 8), ("a: B", 3), ("aB: c", 0), ("9: a", 0),
            ("a: abcdefghijklm", 3), ("a: b=", 4), ("a: b | c", 5), ("; a: b", 0), ("a: b:", 4), ("a: b; c", 7),
        ):
            self.refused(BadText, place, read_house, text)
        self.assertEqual(read_house("a:abcdefghijkl;b:abcdefghijkl")[0], ("abcdefghijkl",))
        self.assertEqual(read_house("  a :b9  "), (("b9",), (("a", (0,)),)))
        self.refused(Twice, 7, read_house, "a: b ; a ) Q")
        self.refused(Twice, 5, read_house, "a: b b with")


class DataTexts(Case):

    def test_the_examples(self):
        data = (((1, 10), (2, 20)), ((1, 5),), ())
        self.assertEqual(read_data(HOUSE, "people: 1 10, 2 20; calls: 1 5"), data)
        self.assertEqual(print_data(HOUSE, data), "people: 1 10, 2 20; calls: 1 5")
        self.refused(Twice, 12, read_data, HOUSE, "calls: 1 5, 1 5")
        self.refused(BadText, 11, read_data, HOUSE, "calls: 1 5 7")
        self.assertEqual(read_data(house=HOUSE, text=""), ((), (), ()))
        self.assertEqual(print_data(house=HOUSE, data=((), (), ())), "")

    def test_parts_in_any_order(self):
        self.assertEqual(read_data(HOUSE, "days: 0 999999; people: 7 7"), (((7, 7),), (), ((0, 999999),)))
        self.assertEqual(print_data(HOUSE, (((7, 7),), (), ((3, 1), (0, 999999)))), "people: 7 7; days: 3 1, 0 999999")
        self.refused(Twice, 11, read_data, HOUSE, "days: 0 1; days: 0 2")
        self.refused(NoName, 11, read_data, HOUSE, "days: 0 1; day: 0 2")
        self.refused(NoName, 0, read_data, HOUSE, "id: 0 1")

    def test_40_rows_and_41(self):
        rows = [f"{k} 7" for k in range(40)]
        text = "calls: " + ", ".join(rows)
        data = read_data(HOUSE, text)
        self.assertEqual(data[1], tuple((k, 7) for k in range(40)))
        self.assertEqual(print_data(HOUSE, data), text)
        for row in ("40 7", "0 7"):
            self.refused(BadText, len(text) + 2, read_data, HOUSE, f"{text}, {row}")
        self.refused(BadText, len(text) + 1, read_data, HOUSE, text + ",")
        self.assertEqual(len(read_data(HOUSE, text + "; people: 1 1")[1]), 40)
        self.refused(Twice, len(text) - 4, read_data, HOUSE, text[:-4] + "0 7")

    def test_figure_words(self):
        self.assertEqual(read_data(HOUSE, "days:0 100000"), ((), (), ((0, 100000),)))
        for word in ("1000000", "00", "01", "0000000", "1a", "-1", "a", "with", "=", ""):
            self.refused(BadText, 8, read_data, HOUSE, f"days: 1 {word}")

    def test_twice_is_asked_behind_the_last_word_of_a_row(self):
        self.refused(BadText, 14, read_data, HOUSE, "calls: 1 5, 1 ")
        self.refused(BadText, 14, read_data, HOUSE, "calls: 1 5, 1 x 5")
        self.refused(Twice, 12, read_data, HOUSE, "calls: 1 5, 1 5 Q")
        self.refused(Twice, 17, read_data, HOUSE, "calls: 1 5, 1 6, 1 5, 1 5")

    def test_first_wrong_words(self):
        for text, place in (
            ("people", 6), ("people 1", 7), ("people:", 7), ("people: 1", 9), ("people: 1,", 9), ("people: 1 2;", 12),
            ("people: 1 2,", 12), ("people: 1 2:", 11), ("people: 1 2; ;", 13), (";", 0), ("people: ; calls: 1 1", 8),
            ("1", 0), ("with: 1 2", 0), ("people: 1 2 calls: 1 1", 12),
        ):
            self.refused(BadText, place, read_data, HOUSE, text)

    def test_what_is_no_data(self):
        self.refused(BadHouse, -1, print_data, (), None)
        self.refused(BadData, -1, print_data, HOUSE, ((), ()))
        self.refused(BadData, (1, -1), print_data, HOUSE, ((), None, None))
        self.refused(BadData, (1, 1), print_data, HOUSE, ((), ((1, 2), (1, 2)), ()))
        self.refused(BadData, (2, 0), print_data, HOUSE, ((), (), ((1, 1000000),)))
        house = (tuple(f"c{k}" for k in range(13)), tuple((f"s{k}", scheme) for k, scheme in enumerate(TWELVE)))
        self.assertEqual(print_data(house, ((),) * 11 + (((1, 2),),)), "s11: 1 2")
        for thing in ODD:
            self.assertRaises(BadData, print_data, HOUSE, thing)
            if thing != ():
                index = 0 if isinstance(thing, tuple) and len(thing) < 41 else -1
                self.refused(BadData, (0, index), print_data, HOUSE, (thing, (), ()))


if __name__ == "__main__":
    unittest.main()
