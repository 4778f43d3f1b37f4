"""Books: the schemes of some sources, and the columns that sources share."""

from behindboth.errors import BadBook, BadSource
from behindboth.values import number_below, rising_below

MOST_SOURCES = 12
MOST_IN_SCHEME = 8
COLUMN_LIMIT = 24


def made_book(thing):
    """A thing that is a book; BadBook if it is none."""
    if not isinstance(thing, tuple) or not 1 <= len(thing) <= MOST_SOURCES:
        raise BadBook(-1)
    for index, scheme in enumerate(thing):
        if not rising_below(scheme, COLUMN_LIMIT) or len(scheme) > MOST_IN_SCHEME:
            raise BadBook(index)
    return thing


def is_book(thing):
    """Whether a thing is a book."""
    try:
        made_book(thing)
    except BadBook:
        return False
    return True


def columns(book):
    """All columns that the sources of a book have, rising."""
    made_book(book)
    return all_columns(book)


def shared(book, i, j):
    """The columns that two sources both have, rising."""
    _need_sources(book, i, j)
    return common(book[i], book[j])


def neighbours(book, i, j):
    """Whether two sources are two, and share a column."""
    _need_sources(book, i, j)
    return i != j and len(common(book[i], book[j])) > 0


def need_source(book, thing):
    """BadSource unless a thing is the number of a source of a book that is known to be right."""
    if not number_below(thing, len(book)):
        raise BadSource(thing)


def _need_sources(book, i, j):
    made_book(book)
    need_source(book, i)
    need_source(book, j)


def all_columns(schemes):
    """All columns of some schemes, rising. The schemes are not checked."""
    return tuple(sorted({column for scheme in schemes for column in scheme}))


def common(one, two):
    """What two rising tuples both have, rising."""
    return tuple([part for part in one if part in two])


def partly(scheme, some):
    """Whether a scheme has some, but not all, of some columns."""
    return 0 < len(common(scheme, some)) < len(some)


def struck(book, some):
    """The schemes of a book without some columns; perhaps nothing is left of a scheme."""
    return tuple([tuple([column for column in scheme if column not in some]) for scheme in book])
