"""Drawn houses and what is told of them, own texts of these word by word, and words made wrong."""

from collections import namedtuple

from helpers import random_book, random_data, random_plan, random_rule
from searches import plain_hangs

# A word of a text. kind: "source" and "column" where the house has to have the name, "figures", "count" below 100,
# "other". ahead: names that are Twice there. ends: whether the text may end ahead of it. early: an error that is asked
# ahead of any question about it, where it is not a further name.
Slot = namedtuple("Slot", "word kind ahead ends early", defaults=((), False, None))

# Names that are words of texts as well, and others.
NAMES = tuple("""of rows and if yes no by at right apart unlike plan ring fork left both none worth least filled blank
is put take undo redo run news data back judge why order stuck thirds count nth mends came went ok refused
a b c d e f g h i j k l m n o p q r s t u v w x y z a1 a2 b0 x999999 abcdefghijkl a00000000000 with1
wherever""".split())
# Words that can stand nowhere.
NOWHERE = (
    "Q", "aB", "9a", "1a", "abcdefghijklm", "a000000000000", "01", "00", "007", "1000000", "1234567", "%", "-", "_",
    ".", "[", "~", "!", "'", '"', "<", "*", "A", "Z", "WITH", "x" * 200, "1" * 200,
)


def numbered(named):
    """The house of some pairs of a name and names of columns, its columns numbered as they are met."""
    columns = []
    for _, names in named:
        columns.extend(name for name in dict.fromkeys(names) if name not in columns)
    return tuple(columns), tuple((name, tuple(sorted(map(columns.index, names)))) for name, names in named)


def random_named(random, book):
    """Names for a book."""
    sources = random.sample(NAMES, len(book))
    columns = random.sample(NAMES, 24)
    return [(name, [columns[c] for c in random.sample(scheme, len(scheme))]) for name, scheme in zip(sources, book)]


def random_house(random, most_sources=6):
    return numbered(random_named(random, random_book(random, most_sources, random.choice((4, 8, 24)), 8)))


def joined_house(random, most_sources=6):
    while True:
        house = random_house(random, most_sources)
        if plain_hangs(own_book(house), range(len(house[1]))):
            return house


def own_book(house):
    return tuple(scheme for _, scheme in house[1])


def source_names(house):
    return [name for name, _ in house[1]]


def own_text(words):
    """Words as they are told: by a blank between all, and then none where there is none."""
    text = " ".join(words)
    for sign in "),:;":
        text = text.replace(" " + sign, sign)
    return text.replace("( ", "(")


def spread(random, words):
    """The same words with more blanks; with none where two need not be parted, as it comes."""
    text = " " * random.randrange(3)
    for one, two in zip(words, list(words[1:]) + [""]):
        needed = one[-1:].isalnum() and two[:1].isalnum()
        text += one + " " * random.choice((needed, needed, 1, 3))
    return text


def tight(words):
    """The same words with as few blanks as can be."""
    text = ""
    for word in words:
        text += " " + word if text[-1:].isalnum() and word[0].isalnum() else word
    return text


def words_of(slots):
    return [slot.word for slot in slots]


def other(*words, ends=False, early=None):
    return [Slot(words[0], "other", (), ends, early)] + [Slot(word, "other") for word in words[1:]]


def joined(parts, sign, ends=True):
    """Parts with a word between them, ahead of which the text may end."""
    slots = []
    for at, part in enumerate(parts):
        slots += other(sign, ends=ends) * (at > 0) + part
    return slots


def may_be_nothing(slots):
    return [slot._replace(ends=True) for slot in slots[:1]] + slots[1:]


def named_slots(words, kind, least, last=True):
    """Unlike names side by side, so many at least; last tells whether the text may end where they do."""
    return [Slot(word, kind, tuple(words[:at]), last and at >= least) for at, word in enumerate(words)]


def house_slots(named):
    return joined([
        [Slot(name, "name", tuple(other_name for other_name, _ in named[:at]))] + other(":")
        + named_slots(names, "name", 1) for at, (name, names) in enumerate(named)
    ], ";")


def plan_slots(house, plan):
    names = source_names(house)
    ahead = []

    def slots(part):
        if isinstance(part, int):
            ahead.append(names[part])
            return [Slot(names[part], "source", tuple(ahead[:-1]))]
        return other("(") + slots(part[0]) + slots(part[1]) + other(")")

    return slots(plan)


def order_slots(house, order):
    names = [source_names(house)[source] for source in order]
    return joined([[Slot(name, "source", tuple(names[:at]))] for at, name in enumerate(names)], ",")


def rule_slots(house, rule):
    def condition(word, told, *worth):
        if word in ("fork", "least"):
            return other(word) + [Slot(str(told), "count")]
        return other(word) + [Slot(house[0][told], "column")] + [Slot(str(number), "figures") for number in worth]

    return may_be_nothing(joined([
        other("yes" if said else "no")
        + (other("if", ends=True) + joined([condition(*one) for one in conditions], "and") if conditions else [])
        for conditions, said in rule
    ], ";"))


def row_slots(row):
    return [Slot(str(worth), "figures") for worth in row]


def data_slots(house, parts):
    """The words of pairs of a source and its rows, one at least, in the order in which they are told."""
    names = [source_names(house)[source] for source, _ in parts]
    return may_be_nothing(joined([
        [Slot(names[at], "source", tuple(names[:at]))] + other(":") + joined([row_slots(row) for row in rows], ",")
        for at, (_, rows) in enumerate(parts)
    ], ";"))


def question_slots(house, question, shuffle=tuple):
    """The words of a question; shuffle puts names that stand side by side in another order."""
    of, wants, lacks, tests = question
    names, book = source_names(house), own_book(house)
    slots = other("rows")
    behind = None
    if of:
        order = shuffle(of)
        slots += other("of", ends=True)
        for at, source in enumerate(order):
            behind = apart(book, order[:at])
            slots.append(Slot(names[source], "source", tuple(names[s] for s in order[:at]), at > 0, behind))
        behind = apart(book, order)
    for word, some in (("with", wants), ("without", lacks)):
        if some:
            slots += other(word, ends=True, early=behind)
            slots += named_slots([names[source] for source in shuffle(some)], "source", 1)
    if tests:
        slots += other("where", ends=True) + joined([
            [Slot(house[0][column], "column")]
            + (other("=") + [Slot(str(worth), "figures")] if word == "is" else other(word))
            for column, word, worth in tests
        ], "and")
    return slots


def apart(book, sources):
    """The least source of the second piece of some sources, None if they hang together."""
    rest = set(sources)
    first = {min(rest)} if rest else set()
    for _ in sources:
        first |= {s for s in rest if any(set(book[s]) & set(book[t]) for t in first)}
    return min(rest - first) if rest - first else None


def judged_slots(house, told, shuffle=tuple):
    names = source_names(house)
    if told[0] == "right":
        zs = [[house[0][column] for column in shuffle(z)] for z in told[1]]
        slots = other("right", ":") + joined([named_slots(z, "column", 1) for z in zs], "|")
        return slots[:2] + [slots[2]._replace(ends=True)] + slots[3:] if zs else slots
    slots = other(told[0]) + [Slot(str(told[1]), "count")] + other(":")
    if told[0] == "apart":
        return slots + named_slots([names[s] for s in told[2]], "source", 3)
    _, _, s, t, z, left_way, right_way = told
    slots += [Slot(names[s], "source"), Slot(names[t], "source")] + other("at") + [Slot(house[0][z], "column")]
    slots += other(":") + named_slots([names[s] for s in left_way], "source", 1, False) + other("|")
    return slots + named_slots([names[s] for s in right_way], "source", 1)


def why_slots(house, told):
    if told[0] == "plan":
        return other("plan") + plan_slots(house, told[1])
    slots = other("ring")
    names = [source_names(house)[source] for source in told[1]]
    for at, column in enumerate(told[2]):
        slots += [Slot(names[at], "source", tuple(names[:at]), at >= 3), Slot(house[0][column], "column")]
    return slots


def random_parts(random, house, worths=1000000, most_rows=4):
    """Pairs of a source and its rows, one at least, and the data that they tell."""
    data = random_data(random, own_book(house), most_rows, worths)
    parts = [(source, rows) for source, rows in enumerate(data) if rows]
    return random.sample(parts, len(parts)), data


def whole_plan(random, house):
    sources = random.sample(range(len(house[1])), len(house[1]))
    return random_plan(random, sources)


def house_rule(random, house):
    return random_rule(random, len(house[0]), 1000000)


def house_question(random, house):
    book = own_book(house)
    of = ()
    for _ in range(3):
        group = tuple(s for s in range(len(book)) if random.random() < 0.6)
        of = group if group and plain_hangs(book, group) else of
    of = of if random.random() < 0.7 else ()
    wants, lacks = (tuple(s for s in of or range(len(book)) if random.random() < 0.3) for _ in range(2))
    tests = []
    for _ in range(random.choice((0, 0, 1, 2, 8))):
        word = random.choice(("is", "filled", "blank"))
        worth = random.choice((0, 5, 10, 999999)) if word == "is" else 0
        tests.append((random.randrange(len(house[0])), word, worth))
    return of, wants, lacks, tuple(tests)


def random_way(random, house, least=1):
    many = len(house[1])
    return tuple(random.sample(range(many), random.randint(min(least, many), many)))


def house_judged(random, house):
    """What a text may tell of a plan, whether it is right of any or not."""
    fork = random.choice((0, 1, 9, 10, 99))
    kind = random.choice(("right", "apart", "unlike"))
    columns = range(len(house[0]))
    if kind == "right" or len(house[1]) < 3 and kind == "apart":
        zs = [random.sample(columns, random.randint(1, len(columns))) for _ in range(random.choice((0, 1, 3, 14)))]
        return "right", tuple(tuple(sorted(z)) for z in zs)
    if kind == "apart":
        return kind, fork, random_way(random, house, 3)
    pair = (random.randrange(len(house[1])), random.randrange(len(house[1])))
    return (kind, fork) + pair + (random.choice(columns), random_way(random, house), random_way(random, house))


def house_why(random, house):
    if len(house[1]) < 3 or random.random() < 0.5:
        return "plan", whole_plan(random, house)
    way = random_way(random, house, 3)
    return "ring", way, tuple(random.randrange(len(house[0])) for _ in way)
