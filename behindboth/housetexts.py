"""Houses, the sources and columns of which have names; houses and data as texts."""

from behindboth.books import COLUMN_LIMIT, MOST_IN_SCHEME, MOST_SOURCES
from behindboth.data import MOST_ROWS, made_data
from behindboth.errors import BadHouse, BadText, Twice
from behindboth.values import rising_below
from behindboth.words import Reader, name_form, parted, text_of


def made_house(thing):
    """A thing that is a house; BadHouse if it is none."""
    if not _house_form(thing):
        raise BadHouse(-1)
    columns, sources = thing
    ahead = []
    met = 0
    for index, source in enumerate(sources):
        if not _source_form(source) or source[0] in ahead:
            raise BadHouse(index)
        ahead.append(source[0])
        met = _met_behind(source[1], met)
        if met is None or met > len(columns):
            raise BadHouse(index)
    if met < len(columns):
        raise BadHouse(-1)
    return thing


def book_of(house):
    """The book of a house: the schemes of its sources."""
    made_house(house)
    return tuple([scheme for _, scheme in house[1]])


def read_house(text):
    """The house that a text tells."""
    reader = Reader(text)
    columns = []
    sources = []
    more = True
    while more:
        sources.append(_source_in(reader, columns, [name for name, _ in sources]))
        more = reader.more(";", len(sources), MOST_SOURCES)
    reader.end()
    return (tuple(columns), tuple(sources))


def print_house(house):
    """The text of a house."""
    made_house(house)
    columns, sources = house
    return text_of(parted([[name, ":"] + [columns[at] for at in scheme] for name, scheme in sources], ";"))


def read_data(house, text):
    """The data of a house that a text tells."""
    made_house(house)
    reader = Reader(text)
    data = [()] * len(house[1])
    more = reader.word() != ""
    while more:
        _put_part(reader, house, data)
        more = reader.passes(";")
    reader.end()
    return tuple(data)


def print_data(house, data):
    """The text of data of a house."""
    made_data(book_of(house), data)
    names = source_names(house)
    return text_of(parted([[names[source], ":"] + rows_words(rows) for source, rows in enumerate(data) if rows], ";"))


def source_names(house):
    """The names of the sources of a house. It is not checked."""
    return tuple([name for name, _ in house[1]])


def rows_words(rows):
    """The words of rows of one source."""
    return parted([[str(worth) for worth in row] for row in rows], ",")


def _house_form(thing):
    """Whether a thing is a pair of a tuple of unlike names, and of a tuple of as many parts as there may be sources."""
    if not isinstance(thing, tuple) or len(thing) != 2:
        return False
    columns, sources = thing
    if not isinstance(columns, tuple) or not isinstance(sources, tuple):
        return False
    if not 1 <= len(columns) <= COLUMN_LIMIT or not 1 <= len(sources) <= MOST_SOURCES:
        return False
    return all(name_form(name) and name not in columns[:at] for at, name in enumerate(columns))


def _source_form(thing):
    """Whether a thing is a pair of a name and a scheme."""
    if not isinstance(thing, tuple) or len(thing) != 2 or not name_form(thing[0]):
        return False
    return rising_below(thing[1], COLUMN_LIMIT) and len(thing[1]) <= MOST_IN_SCHEME


def _met_behind(scheme, met):
    """How many columns are met behind a scheme, if so many were ahead; None if a column is not numbered so."""
    for column in scheme:
        if column > met:
            return None
        met = max(met, column + 1)
    return met


def _source_in(reader, columns, ahead):
    """Reads a source, no name of which stands ahead; columns that were not met yet are put to those that were."""
    place = reader.place()
    name = reader.name()
    if name in ahead:
        raise Twice(place)
    reader.need(":")
    scheme = []
    while not scheme or reader.has_name():
        _put_column(reader, columns, scheme)
    return (name, tuple(sorted(scheme)))


def _put_column(reader, columns, scheme):
    """Reads a column, and puts it to those of its source, and to those that were met."""
    place = reader.place()
    name = reader.name()
    if len(scheme) == MOST_IN_SCHEME:
        raise BadText(place)
    if name not in columns:
        if len(columns) == COLUMN_LIMIT:
            raise BadText(place)
        columns.append(name)
    column = columns.index(name)
    if column in scheme:
        raise Twice(place)
    scheme.append(column)


def _put_part(reader, house, data):
    """Reads a source and its rows, and puts them to the data."""
    place = reader.place()
    source = reader.named(source_names(house))
    # No source stands there without rows, so one that has some stands ahead.
    if data[source]:
        raise Twice(place)
    reader.need(":")
    rows = []
    more = True
    while more:
        place = reader.place()
        row = reader.worths(len(house[1][source][1]))
        if row in rows:
            raise Twice(place)
        rows.append(row)
        more = reader.more(",", len(rows), MOST_ROWS)
    data[source] = tuple(rows)
