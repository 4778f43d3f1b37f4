"""Data: the rows of the sources, the tags that tell rows, and what tags show."""

from behindboth.books import all_columns, made_book
from behindboth.errors import BadData, BadTags
from behindboth.values import number_below, number_from_zero

MOST_ROWS = 40
WORTH_LIMIT = 1000000


def made_data(book, thing):
    """A thing that is data of a book; BadData if it is none."""
    made_book(book)
    if not isinstance(thing, tuple) or len(thing) != len(book):
        raise BadData(-1)
    for source, scheme in enumerate(book):
        _need_rows(source, scheme, thing[source])
    return thing


def _need_rows(source, scheme, thing):
    if not isinstance(thing, tuple) or len(thing) > MOST_ROWS:
        raise BadData((source, -1))
    ahead = set()
    for index, row in enumerate(thing):
        if not row_form(scheme, row) or row in ahead:
            raise BadData((source, index))
        ahead.add(row)


def row_form(scheme, thing):
    """Whether a thing is a row of a source with this scheme."""
    if not isinstance(thing, tuple) or len(thing) != len(scheme):
        return False
    return all(number_below(worth, WORTH_LIMIT) for worth in thing)


def made_tags(book, data, thing):
    """A thing that is tags of rows of the data; BadTags if it is none."""
    made_data(book, data)
    if not tags_form(book, thing):
        raise BadTags(-1)
    for source, tag in enumerate(thing):
        if tag is not None and tag >= len(data[source]):
            raise BadTags(source)
    return thing


def tags_form(book, thing):
    """Whether a thing looks like tags of a book, whatever rows its sources have."""
    if not isinstance(thing, tuple) or len(thing) != len(book):
        return False
    told = [tag for tag in thing if tag is not None]
    return len(told) > 0 and all(number_from_zero(tag) for tag in told)


def have(tags):
    """The group of the sources that tags tell a row of."""
    return tuple([source for source, tag in enumerate(tags) if tag is not None])


def shown(book, data, tags):
    """What tags show: for each column of the book its worth, or None for a blank."""
    made_tags(book, data, tags)
    return shown_in(book, data, tags)


def quarrel(book, data, one, two):
    """Whether two tags show unlike worths in a column that is filled in both."""
    made_tags(book, data, one)
    made_tags(book, data, two)
    left = filled(book, data, one)
    right = filled(book, data, two)
    return any(column in right and right[column] != worth for column, worth in left.items())


def shown_in(book, rows, tags):
    """As shown, of a book and tags that are known to be right, and of the rows of each source by their tags."""
    worths = filled(book, rows, tags)
    return tuple([worths.get(column) for column in all_columns(book)])


def shown_form(book, thing):
    """Whether a thing looks like what tags of a book show: a worth or None for each column, not all None."""
    if not isinstance(thing, tuple) or len(thing) != len(all_columns(book)):
        return False
    worths = [worth for worth in thing if worth is not None]
    return len(worths) > 0 and all(number_below(worth, WORTH_LIMIT) for worth in worths)


def filled(book, data, tags):
    """The worths that tags show, by their columns; book, data and tags are not checked."""
    worths = {}
    for source in have(tags):
        for column, worth in zip(book[source], data[source][tags[source]]):
            worths.setdefault(column, worth)
    return worths


def place(tags):
    """What tags are put in order by: None stands ahead of every number."""
    return tuple([-1 if tag is None else tag for tag in tags])


def in_order(many):
    """Some tags, or other tuples with None in them, in order."""
    return tuple(sorted(many, key=place))
