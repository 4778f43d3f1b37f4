"""Mends: what to call otherwise, or to leave aside, so that a book has a right plan."""

from behindboth.books import COLUMN_LIMIT, all_columns, need_source
from behindboth.errors import BadColumn, TooMany
from behindboth.groups import everyone, need_joined, pieces_in
from behindboth.planner import plan_or_ring
from behindboth.values import number_below


def renamed(book, source, column):
    """The book in which a column of a source has the least number that no source has."""
    need_joined(book)
    need_source(book, source)
    if not number_below(column, COLUMN_LIMIT) or column not in book[source]:
        raise BadColumn(column)
    return _with_fresh(book, source, column, _fresh_column(book))


def mends(book):
    """All pairs of a source and a column of it, in order, that a book has a right plan with when it is renamed."""
    need_joined(book)
    fresh = _fresh_column(book)
    pairs = [(source, column) for source, scheme in enumerate(book) for column in scheme]
    return tuple([pair for pair in pairs if _has_plan(_with_fresh(book, pair[0], pair[1], fresh))])


def aside(book):
    """The sources without which the rest hangs together and has a right plan, rising."""
    need_joined(book)
    return tuple([source for source in everyone(book) if _has_plan(book[:source] + book[source + 1:])])


def _fresh_column(book):
    """The least column that no source has; TooMany if there is none."""
    taken = all_columns(book)
    if len(taken) == COLUMN_LIMIT:
        raise TooMany(COLUMN_LIMIT)
    return min([column for column in range(COLUMN_LIMIT) if column not in taken])


def _with_fresh(book, source, column, fresh):
    """A book in which a column of a source is called otherwise."""
    scheme = tuple(sorted([fresh if other == column else other for other in book[source]]))
    return book[:source] + (scheme,) + book[source + 1:]


def _has_plan(schemes):
    """Whether schemes, perhaps none, are a book that hangs together and has a right plan."""
    return len(pieces_in(schemes, everyone(schemes))) == 1 and plan_or_ring(schemes)[0] == "plan"
