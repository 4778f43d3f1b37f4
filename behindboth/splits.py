"""Splits: the good forks by which a group can be put together of two sides."""

from behindboth.books import common, partly, struck
from behindboth.groups import made_group, need_hanging, need_joined, pieces_in


def splits(book, group):
    """All pairs of sides of good forks that a group is made of, left having its least source, in order."""
    need_joined(book)
    made_group(book, group)
    need_hanging(book, group)
    return splits_in(book, group)


def splits_in(book, group):
    """As splits, of a book and a group that are known to be right."""
    found = []
    for z in _shared_by_two(book, group):
        if not any(partly(book[source], z) for source in group):
            found.extend(_dealt(pieces_in(struck(book, z), group)))
    return tuple(sorted(found))


def _shared_by_two(book, group):
    """What two neighbours of a group share, each such tuple of columns once."""
    found = {}
    for i in group:
        for j in group:
            both = common(book[i], book[j])
            if i < j and both:
                found[both] = True
    return list(found)


def _dealt(parts):
    """All ways to deal pieces to two sides, none of them empty, the first piece to the left one."""
    found = []
    # With all bits set nothing would be left for the right side.
    for mask in range((1 << (len(parts) - 1)) - 1):
        left = list(parts[0])
        right = []
        for at, piece in enumerate(parts[1:]):
            side = left if (mask >> at) & 1 else right
            side.extend(piece)
        found.append((tuple(sorted(left)), tuple(sorted(right))))
    return found
