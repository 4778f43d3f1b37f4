"""The sides of a fork, and whether it is good."""

from behindboth.books import common
from behindboth.errors import BadGroup
from behindboth.groups import columns_in, made_group, pieces_in, without


def across(book, left, right):
    """The neighbours of which one is of the left and one of the right side, in order."""
    _need_sides(book, left, right)
    return across_in(book, left, right)


def meet(book, left, right):
    """The columns that both sides have, rising."""
    _need_sides(book, left, right)
    return meet_in(book, left, right)


def good(book, left, right):
    """Whether there are neighbours across, and each two such share just the columns that both sides have."""
    _need_sides(book, left, right)
    return good_in(book, left, right)


def _need_sides(book, left, right):
    made_group(book, left)
    made_group(book, right)
    if common(left, right):
        raise BadGroup(1)


def across_in(book, left, right):
    """As across, of a book and sides that are known to be right."""
    return tuple([(i, j) for i in left for j in right if common(book[i], book[j])])


def meet_in(book, left, right):
    """As meet, of a book and sides that are known to be right."""
    return common(columns_in(book, left), columns_in(book, right))


def good_in(book, left, right):
    """As good, of a book and sides that are known to be right."""
    pairs = across_in(book, left, right)
    z = meet_in(book, left, right)
    return len(pairs) > 0 and all(common(book[i], book[j]) == z for i, j in pairs)


def goes_last(book, group, source):
    """Whether a source can go last in a group of two sources or more that hangs together."""
    rest = without(group, source)
    return len(pieces_in(book, rest)) == 1 and good_in(book, rest, (source,))
