"""Plain own looks at plans, splits, rings and papers, and books of all sorts for them."""

from itertools import combinations, permutations

from helpers import random_book


def plain_shared(book, i, j):
    return set(book[i]) & set(book[j])


def plain_hangs(book, group):
    reached = set(list(group)[:1])
    while True:
        more = {s for s in group if any(plain_shared(book, s, t) for t in reached)} - reached
        if not more:
            return len(group) > 0 and reached == set(group)
        reached |= more


def plain_meet(book, left, right):
    columns = [{column for source in side for column in book[source]} for side in (left, right)]
    return tuple(sorted(columns[0] & columns[1]))


def plain_good(book, left, right):
    pairs = [(i, j) for i in left for j in right if plain_shared(book, i, j)]
    return bool(pairs) and all(plain_shared(book, i, j) == set(plain_meet(book, left, right)) for i, j in pairs)


def plain_forks(plan):
    """The sides of all forks, as plain lists of sources, in the order of forks."""
    if isinstance(plan, int):
        return []
    sides = [plain_leaves(side) for side in plan]
    return plain_forks(plan[0]) + plain_forks(plan[1]) + [sides]


def plain_leaves(plan):
    return [plan] if isinstance(plan, int) else sorted(plain_leaves(plan[0]) + plain_leaves(plan[1]))


def plain_right(book, plan):
    return all(plain_good(book, left, right) for left, right in plain_forks(plan))


def plain_halves(group):
    """All pairs (left, right) that a group is made of, left having its least source."""
    first, rest = group[0], group[1:]
    for many in range(len(rest)):
        for others in combinations(rest, many):
            yield (first, *others), tuple(s for s in rest if s not in others)


def plain_splits(book, group):
    return tuple(sorted(
        (left, right) for left, right in plain_halves(group)
        if plain_hangs(book, left) and plain_hangs(book, right) and plain_good(book, left, right)
    ))


def plain_plans(group):
    """All plans of a group in which left has the least source of each fork."""
    if len(group) == 1:
        return [group[0]]
    return [
        (one, two) for left, right in plain_halves(group) for one in plain_plans(left) for two in plain_plans(right)
    ]


def turned_plans(plan):
    """A plan with left and right exchanged at each of its forks or not."""
    if isinstance(plan, int):
        return [plan]
    sides = [(one, two) for one in turned_plans(plan[0]) for two in turned_plans(plan[1])]
    return sides + [(two, one) for one, two in sides]


def all_plans(group):
    return [plan for one in plain_plans(group) for plan in turned_plans(one)]


def plain_has_plan(book, group, known):
    """Whether a group has a right plan, by a look at all halves of all groups within it."""
    if len(group) == 1:
        return True
    if group not in known:
        known[group] = any(
            plain_good(book, left, right) and plain_has_plan(book, left, known) and plain_has_plan(book, right, known)
            for left, right in plain_halves(group)
        )
    return known[group]


def plain_is_ring(book, sources, xs):
    m = len(sources)
    if m < 3 or len(xs) != m or len(set(sources)) != m:
        return False
    for i in range(m):
        if xs[i] not in plain_shared(book, sources[i], sources[(i + 1) % m]):
            return False
        if i < m - 1 and any(xs[i] in book[sources[k]] for k in range(m) if k not in (i, i + 1)):
            return False
    return True


def plain_rings(book):
    """All rings, by a look at all rows of sources: each may be closed by any column."""
    def goes_on(sources, xs):
        for x in book[sources[-1]]:
            if plain_is_ring(book, sources, xs + (x,)):
                yield sources, xs + (x,)
        for s in range(len(book)):
            if s not in sources:
                for x in sorted(plain_shared(book, sources[-1], s)):
                    if not any(x in book[t] for t in sources[:-1]) and not any(x in book[s] for x in xs):
                        yield from goes_on(sources + (s,), xs + (x,))

    for s in range(len(book)):
        yield from goes_on((s,), ())


def plain_has_ring(book):
    return any(True for _ in plain_rings(book))


def plain_can_go_last(book, group, source):
    rest = tuple(s for s in group if s != source)
    return plain_hangs(book, rest) and plain_good(book, rest, (source,))


def plain_orders(book):
    """All right orders, in order."""
    found = []
    for order in permutations(range(len(book))):
        if all(plain_good(book, order[:k], order[k:k + 1]) for k in range(1, len(order))):
            found.append(order)
    return found


def plain_thirds(book):
    found = []
    for p, q, r in permutations(range(len(book)), 3):
        both = plain_shared(book, p, q)
        if p < q and set(book[r]) & both and both - set(book[r]):
            found.append((p, q, r))
    return tuple(found)


def plain_parts(plan):
    return [plan] if isinstance(plan, int) else [plan] + plain_parts(plan[0]) + plain_parts(plan[1])


def plain_shows(book, plan):
    groups = [plain_leaves(part) for part in plain_parts(plan)]
    for p, q, r in plain_thirds(book):
        if r in min([group for group in groups if p in group and q in group], key=len):
            return False
    return True


def plain_linked(book, plan):
    """Whether all forks of a plan have neighbours across."""
    return all(any(plain_shared(book, i, j) for i in left for j in right) for left, right in plain_forks(plan))


def linked_plan(random, book):
    """A plan all forks of which have neighbours across, of a book that hangs together."""
    parts = [(s, [s]) for s in range(len(book))]
    while len(parts) > 1:
        one, two = random.sample(parts, 2)
        if any(plain_shared(book, i, j) for i in one[1] for j in two[1]):
            parts = [part for part in parts if part not in (one, two)] + [((one[0], two[0]), one[1] + two[1])]
    return parts[0][0]


def plain_numbered(book, group):
    """All plain right plans of a group, in the order in which they are numbered."""
    if len(group) == 1:
        return [group[0]]
    return [
        (one, two) for left, right in plain_splits(book, group)
        for one in plain_numbered(book, left) for two in plain_numbered(book, right)
    ]


def joined_book(random, most_sources, most_columns, most_in_scheme):
    while True:
        book = random_book(random, most_sources, most_columns, most_in_scheme)
        if plain_hangs(book, range(len(book))):
            return book


def right_book(random, many):
    """A book of so many sources that has a right plan: each fork's sides get the same columns for some sources."""
    while True:
        schemes, made = [], [0]

        def fresh(at_least):
            columns = list(range(made[0], made[0] + random.randint(at_least, 2)))
            made[0] += len(columns)
            return columns

        def make(size, pending):
            if size == 1:
                schemes.append(sum(pending, fresh(0 if pending else 1)))
                return
            merged = [some for some in pending if random.random() < 0.3]
            z = sum(merged, fresh(0 if merged else 1))
            sides = ([z], [z])
            for some in pending:
                if some not in merged:
                    sides[random.randrange(2)].append(some)
            at = random.randrange(1, size)
            make(at, sides[0])
            make(size - at, sides[1])

        make(many, [])
        if made[0] <= 24 and max(len(scheme) for scheme in schemes) <= 8:
            names = random.sample(range(24), made[0])
            random.shuffle(schemes)
            return tuple(tuple(sorted(names[column] for column in scheme)) for scheme in schemes)


def ring_book(random, many, length):
    """A book of so many sources that hangs together, so many of which are a ring by columns of their own."""
    schemes = [[k, (k + 1) % length] for k in range(length)]
    made = length
    while len(schemes) < many:
        scheme = [made] + random.sample(range(made), random.randint(1, 2))
        made += 1
        schemes.append(scheme)
    names = random.sample(range(24), made)
    random.shuffle(schemes)
    return tuple(tuple(sorted(names[column] for column in scheme)) for scheme in schemes)


def bent(thing):
    """All that comes of a paper if it is bent in one place."""
    if isinstance(thing, int):
        yield from (thing + 1, thing - 1, thing + 24, -thing - 1, thing == 1, None, str(thing), (thing,))
    elif isinstance(thing, str):
        yield from (thing + " ", "apart", "unlike", "right", "ring", "", 0, None, (thing,))
    else:
        yield from (None, 0, (thing,), thing + (None,), thing + thing, ())
        for at, part in enumerate(thing):
            yield thing[:at] + thing[at + 1:]
            yield thing[:at] + (part, part) + thing[at + 1:]
            for other in range(at):
                yield thing[:other] + (part,) + thing[other + 1:at] + (thing[other],) + thing[at + 1:]
            for one in bent(part):
                yield thing[:at] + (one,) + thing[at + 1:]


def is_number(thing, below):
    return isinstance(thing, int) and not isinstance(thing, bool) and 0 <= thing < below


def is_way(book, way):
    return (
        isinstance(way, tuple) and len(way) > 0 and all(is_number(s, len(book)) for s in way)
        and len(set(way)) == len(way) and all(plain_shared(book, s, t) for s, t in zip(way, way[1:]))
    )


def plain_apart(book, plan, paper):
    if len(paper) != 3 or not is_number(paper[1], len(plain_forks(plan))):
        return False
    way = paper[2]
    if not is_way(book, way) or len(way) < 3:
        return False
    for side, other in permutations(plain_forks(plan)[paper[1]]):
        if way[0] in side and way[-1] in side and set(way[1:-1]) <= set(other):
            linked = {way[0]}
            for _ in side:
                linked |= {s for s in side if any(plain_shared(book, s, t) for t in linked)}
            return way[-1] not in linked
    return False


def plain_unlike(book, plan, paper):
    if len(paper) != 7 or not is_number(paper[1], len(plain_forks(plan))):
        return False
    _, f, s, t, z, left_way, right_way = paper
    left, right = plain_forks(plan)[f]
    if not is_number(s, 12) or not is_number(t, 12) or s not in left or t not in right or not is_number(z, 24):
        return False
    for way, first, side in ((left_way, s, left), (right_way, t, right)):
        if not is_way(book, way) or way[0] != first or not set(way) <= set(side) or z not in book[way[-1]]:
            return False
    if not plain_shared(book, s, t) or z in plain_shared(book, s, t) or z not in plain_meet(book, left, right):
        return False
    within = [fork for fork in plain_forks(plan) if any(set(fork[0] + fork[1]) <= set(side) for side in (left, right))]
    return all(plain_good(book, one, two) for one, two in within)


def plain_wrong(book, plan, paper):
    """Whether a paper, of which nothing is known, is a wrong paper of a plan."""
    if not isinstance(paper, tuple) or len(paper) < 3:
        return False
    if paper[0] == "apart":
        return plain_apart(book, plan, paper)
    return paper[0] == "unlike" and plain_unlike(book, plan, paper)
