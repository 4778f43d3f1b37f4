"""Bare rows: what the whole shows without its tags, and what that tells of a source."""

from behindboth.books import all_columns, common, made_book, need_source
from behindboth.data import in_order, shown_form, shown_in
from behindboth.errors import BadRows, Covered
from behindboth.groups import columns_in, everyone, pieces_in, without
from behindboth.whole import whole


def bare(book, data):
    """What the lots of the whole show, in order."""
    return in_order([shown_in(book, data, lot) for lot in whole(book, data)])


def coverer(book, source):
    """A group of other sources that hangs together and has all columns of a source, None if there is none."""
    made_book(book)
    need_source(book, source)
    return _coverer_in(book, source)


def told_back(book, rows, source):
    """The rows of a source that is not covered, in order, as shown rows that are filled there tell them."""
    made_book(book)
    _need_rows(book, rows)
    need_source(book, source)
    if _coverer_in(book, source) is not None:
        raise Covered(source)
    places = _places(book, source)
    worths = {tuple([row[at] for at in places]): True for row in rows}
    return tuple(sorted([row for row in worths if None not in row]))


def fillers(book, shown):
    """The sources all of whose columns are filled in a shown row, rising."""
    made_book(book)
    if not shown_form(book, shown):
        raise BadRows(-1)
    return tuple([source for source in everyone(book) if all(shown[at] is not None for at in _places(book, source))])


def twins(book, source):
    """Two data with the same bare rows, and with unlike rows of a source; None if it is not covered."""
    group = coverer(book, source)
    if group is None:
        return None
    # A row of zeros of the source lies in what the rows of zeros of the group show.
    less = [((0,) * len(scheme),) if other in group else () for other, scheme in enumerate(book)]
    more = list(less)
    more[source] = ((0,) * len(book[source]),)
    return (tuple(less), tuple(more))


def _need_rows(book, thing):
    """BadRows unless a thing are shown rows of a book."""
    if not isinstance(thing, tuple):
        raise BadRows(-1)
    for index, row in enumerate(thing):
        if not shown_form(book, row):
            raise BadRows(index)


def _coverer_in(book, source):
    """As coverer, of a book and a source that are known to be right."""
    # A group that hangs together lies in one piece of all others, and the piece has what the group has.
    others = without(everyone(book), source)
    for piece in pieces_in(book, others):
        if common(book[source], columns_in(book, piece)) == book[source]:
            return piece
    return None


def _places(book, source):
    """Where a shown row has the columns of a source."""
    columns = all_columns(book)
    return [columns.index(column) for column in book[source]]
