"""The planner: a right plan, or a ring where there is none."""

from behindboth.books import common, partly, struck
from behindboth.groups import everyone, need_joined, pieces_in
from behindboth.ways import way_in


def plan(book):
    """A right plan of a book, None if there is none."""
    told = plan_or_ring(book)
    return told[1] if told[0] == "plan" else None


def plan_or_ring(book):
    """("plan", a right plan) of a book, or ("ring", sources, xs) with a ring of it."""
    need_joined(book)
    return _told_of(book, everyone(book))


def _told_of(book, group):
    """As plan_or_ring, of a group that hangs together."""
    if len(group) == 1:
        return ("plan", group[0])
    s, t = _least_neighbours(book, group)
    z = common(book[s], book[t])
    for r in group:
        if partly(book[r], z):
            return _ring_of_three(book, s, t, r)
    rest = struck(book, z)
    parts = pieces_in(rest, group)
    if len(parts) == 1:
        return _ring_by_a_way(rest, way_in(rest, s, group, (t,)), z)
    left = _told_of(book, parts[0])
    if left[0] == "ring":
        return left
    right = _told_of(book, tuple([source for source in group if source not in parts[0]]))
    return right if right[0] == "ring" else ("plan", (left[1], right[1]))


def _least_neighbours(book, group):
    """Two neighbours of a group that share as few columns as any two: so no two share a part of these alone."""
    pairs = [(i, j) for i in group for j in group if i < j and common(book[i], book[j])]
    return min(pairs, key=lambda pair: len(common(book[pair[0]], book[pair[1]])))


def _ring_of_three(book, s, t, r):
    """The ring of two neighbours, and of a source that has some, but not all, of what they share."""
    z = common(book[s], book[t])
    lacking = [column for column in z if column not in book[r]]
    rest = struck(book, z)
    return ("ring", (s, t, r), (lacking[0], common(rest[t], rest[r])[0], common(rest[r], rest[s])[0]))


def _ring_by_a_way(rest, way, z):
    """The ring of a shortest way by what is left of the schemes, its ends being neighbours by z alone."""
    links = [common(rest[one], rest[two])[0] for one, two in zip(way, way[1:])]
    return ("ring", way, tuple(links) + z[:1])
