"""What several tests use: odd values, small random books and data, and a plain own search."""

import unittest
from itertools import product

AB_BC = ((0, 1), (1, 2))
AB_BC_CD = ((0, 1), (1, 2), (2, 3))
TRIANGLE = ((0, 1), (1, 2), (0, 2))
F = ((0, 1, 2), (0, 1, 3), (0, 4, 5), (0, 4, 6))
APART = ((0, 1), (1, 2), (3,), (2, 4))
TWELVE = tuple((k, k + 1) for k in range(12))


def nested(deep):
    thing = ()
    for _ in range(deep - 1):
        thing = (thing,)
    return thing


def forked(deep, leaf=0):
    thing = leaf
    for _ in range(deep):
        thing = (thing, leaf)
    return thing


def doubled(deep):
    """A pair of pairs, with 2 ** deep parts at the bottom."""
    thing = 0
    for _ in range(deep):
        thing = (thing, thing)
    return thing


ODD = (
    None, True, False, 0, 1, -1, 24, 10 ** 999, -10 ** 999, "", "0", "plan", "x" * 1000,
    (), (None,), (True,), (False,), (-1,), (24,), ("0",), ((),), ((0,), (0,), 0), ((), ()), ("fork", 0),
    (True, 0), (0, True), (0, 0), (1, 0), (None, None), (0, None), ((True,),), (((),),), ((((), True),),),
    nested(50), forked(49), forked(49, "x"), (nested(49), nested(49)), doubled(15),
    (0,) * 99999, (None,) * 99999, tuple(range(99999)), ((0, 1),) * 33000, ((),) * 99998, ("x",) * 99999,
    ((0,) * 99998,), (tuple(range(99998)),), ((None,) * 99998,), (((0,),) * 49998,), (True,) * 12, (None,) * 12,
)


class Case(unittest.TestCase):
    """Tests of what is refused."""

    def refused(self, error, what, function, *arguments, **named):
        with self.assertRaises(error) as caught:
            function(*arguments, **named)
        self.assertIs(caught.exception.__class__, error)
        self.assertEqual(repr(caught.exception.what), repr(what))

    def is_bool(self, wanted, got):
        self.assertIs(got, wanted)


def meeting(sizes):
    """Sources that all share the column 0, with so many rows that have one worth there."""
    book = tuple((0, k + 1) for k in range(len(sizes)))
    return book, tuple(tuple((7, row) for row in range(size)) for size in sizes)


def random_book(random, most_sources, most_columns, most_in_scheme):
    book = []
    for _ in range(random.randint(1, most_sources)):
        many = random.randint(1, min(most_columns, most_in_scheme))
        book.append(tuple(sorted(random.sample(range(most_columns), many))))
    return tuple(book)


def random_data(random, book, most_rows, worths):
    data = []
    for scheme in book:
        rows = []
        for _ in range(random.randint(0, most_rows)):
            row = tuple(random.randrange(worths) for _ in scheme)
            if row not in rows:
                rows.append(row)
        data.append(tuple(rows))
    return tuple(data)


def in_order(tags):
    return [-1 if tag is None else tag for tag in tags]


def plain_is_lot(book, data, tags):
    there = [source for source in range(len(book)) if tags[source] is not None]
    rows = {s: dict(zip(book[s], data[s][tags[s]])) for s in there}
    for s in there:
        for t in there:
            if any(rows[s][c] != rows[t][c] for c in rows[s] if c in rows[t]):
                return False
    reached = there[:1]
    for _ in there:
        for s in there:
            if s not in reached and any(set(book[s]) & set(book[t]) for t in reached):
                reached.append(s)
    return bool(there) and len(reached) == len(there)


def plain_lies(one, two):
    return all(a is None or a == b for a, b in zip(one, two))


def plain_whole(book, data):
    choices = [[None] + list(range(len(rows))) for rows in data]
    lots = [tags for tags in product(*choices) if plain_is_lot(book, data, tags)]
    best = [one for one in lots if not any(one != two and plain_lies(one, two) for two in lots)]
    return tuple(sorted(best, key=in_order))


def plain_shown(book, data, tags):
    """What tags show, as a dict from column to worth."""
    worths = {}
    for source in reversed(range(len(book))):
        if tags[source] is not None:
            worths.update(zip(book[source], data[source][tags[source]]))
    return worths


def plain_holds(condition, fork, left, right):
    word, c = condition[:2]
    return {
        "fork": fork == c,
        "left": c in left,
        "right": c in right,
        "both": c in left and c in right,
        "none": c not in left and c not in right,
        "worth": condition[-1] in (left.get(c, -1), right.get(c, -1)),
        "least": len(set(left) & set(right)) >= c,
    }[word]


def plain_answer(rule, fork, left, right):
    for conditions, said in rule:
        if all([plain_holds(condition, fork, left, right) for condition in conditions]):
            return said
    return False


def plain_says(rule, fork, z, left, right):
    both = [column for column in range(24) if column in left and column in right]
    if [column for column in both if left[column] != right[column]]:
        return False
    if not both:
        return False
    if set(z) <= set(both):
        return True
    return plain_answer(rule, fork, left, right)


def plain_sources(plan):
    return [plan] if isinstance(plan, int) else plain_sources(plan[0]) + plain_sources(plan[1])


def plain_stages(book, data, plan, pair):
    """The results of all forks; pair(fork, sides, left, right) gives the pairs of tags that are paired."""
    found = []

    def result(part):
        if isinstance(part, int):
            return [tuple(tag if s == part else None for s in range(len(book))) for tag in range(len(data[part]))]
        left, right = result(part[0]), result(part[1])
        pairs = pair(len(found), (plain_sources(part[0]), plain_sources(part[1])), left, right)
        rows = [tuple(b if a is None else a for a, b in zip(one, two)) for one, two in pairs]
        rows += [one for one in left if one not in [pair[0] for pair in pairs]]
        rows += [two for two in right if two not in [pair[1] for pair in pairs]]
        found.append(tuple(sorted(rows, key=in_order)))
        return found[-1]

    last = result(plan)
    return tuple(found), tuple(last)


def plain_run(book, data, plan, rule):
    def pair(fork, sides, left, right):
        columns = [{column for source in side for column in book[source]} for side in sides]
        z = columns[0] & columns[1]
        return [
            (one, two) for one in left for two in right
            if plain_says(rule, fork, z, plain_shown(book, data, one), plain_shown(book, data, two))
        ]
    return plain_stages(book, data, plan, pair)


def random_plan(random, sources):
    if len(sources) == 1:
        return sources[0]
    at = random.randrange(1, len(sources))
    return (random_plan(random, sources[:at]), random_plan(random, sources[at:]))


def random_part(random, book):
    sources = random.sample(range(len(book)), random.randint(1, len(book)))
    return random_plan(random, sources)


def random_pairing(random, book, data, plan):
    """A pairing of a plan, with the result it leads to."""
    entries = []

    def pair(fork, sides, left, right):
        every = [(i, j) for i in range(len(left)) for j in range(len(right))]
        entries.append(tuple(sorted(random.sample(every, random.randint(0, min(len(every), 6))))))
        return [(left[i], right[j]) for i, j in entries[-1]]

    result = plain_stages(book, data, plan, pair)[1]
    return tuple(entries), result


def random_rule(random, most_columns, worths):
    rows = []
    for _ in range(random.randint(0, 5)):
        conditions = []
        for _ in range(random.randint(0, 3)):
            word = random.choice(("fork", "left", "right", "both", "none", "worth", "worth", "least"))
            if word in ("fork", "least"):
                conditions.append((word, random.randrange(4)))
            elif word == "worth":
                conditions.append((word, random.randrange(most_columns), random.randrange(worths)))
            else:
                conditions.append((word, random.randrange(most_columns)))
        rows.append((tuple(conditions), random.random() < 0.6))
    return tuple(rows)
