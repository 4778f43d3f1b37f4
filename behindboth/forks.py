"""The sides of a fork, and whether it is good."""

from behindboth.books import common
from behindboth.errors import BadGroup
from behindboth.groups import columns_in, made_group


def across(book, left, right):
    """The neighbours of which one is of the left and one of the right side, in order."""
    _need_sides(book, left, right)
    return _across(book, left, right)


def meet(book, left, right):
    """The columns that both sides have, rising."""
    _need_sides(book, left, right)
    return _meet(book, left, right)


def good(book, left, right):
    """Whether there are neighbours across, and each two such share just the columns that both sides have."""
    _need_sides(book, left, right)
    pairs = _across(book, left, right)
    z = _meet(book, left, right)
    return len(pairs) > 0 and all(common(book[i], book[j]) == z for i, j in pairs)


def _need_sides(book, left, right):
    made_group(book, left)
    made_group(book, right)
    if common(left, right):
        raise BadGroup(1)


def _across(book, left, right):
    return tuple([(i, j) for i in left for j in right if common(book[i], book[j])])


def _meet(book, left, right):
    return common(columns_in(book, left), columns_in(book, right))
