"""The whole of data: all greatest lots, in print the full disjunction.

Rows are numbered here, source by source, and a set of rows is kept as a number, the bits of which are its rows: so
that many rows can be compared at once.
"""

from behindboth.books import common, is_book
from behindboth.data import made_data, place, tags_form
from behindboth.errors import Refused, TooMany

MOST_LOTS = 3000


def whole(book, data):
    """All lots of the data that lie in no other lot, in order."""
    made_data(book, data)
    fits, nears = _row_masks(book, data)
    lots = _greatest_lots(fits, nears)
    if len(lots) > MOST_LOTS:
        raise TooMany(MOST_LOTS)
    rows = [(source, tag) for source, entry in enumerate(data) for tag in range(len(entry))]
    return tuple(sorted([_tags(lot, rows, len(book)) for lot in lots], key=place))


def is_whole(book, data, thing):
    """Whether a thing is the whole of the data of a book."""
    if not is_book(book) or not isinstance(thing, tuple) or len(thing) > MOST_LOTS:
        return False
    # True equals 1, but is no tag: what looks right is told by its form, not by == alone.
    if not all(tags_form(book, tags) for tags in thing):
        return False
    try:
        lots = whole(book, data)
    except Refused:
        return False
    return thing == lots


def _row_masks(book, data):
    """For each row the rows of other sources that agree with it, and those of them that share a column with it."""
    fits = []
    nears = []
    for source, scheme in enumerate(book):
        fit = [0] * len(data[source])
        near = [0] * len(data[source])
        start = 0
        for other, rows in enumerate(data):
            both = common(scheme, book[other])
            if other != source:
                alike = _rows_by_worths(book[other], rows, both, start)
                for tag, worths in enumerate(_worths_at(scheme, data[source], both)):
                    mask = alike.get(worths, 0)
                    fit[tag] |= mask
                    near[tag] |= mask if both else 0
            start += len(rows)
        fits.extend(fit)
        nears.extend(near)
    return fits, nears


def _worths_at(scheme, rows, some):
    """What each row has at some columns of its scheme."""
    places = [scheme.index(column) for column in some]
    return [tuple([row[at] for at in places]) for row in rows]


def _rows_by_worths(scheme, rows, some, start):
    """The rows as bits, the first one numbered start, by their worths at some columns."""
    alike = {}
    for at, worths in enumerate(_worths_at(scheme, rows, some)):
        alike[worths] = alike.get(worths, 0) | 1 << (start + at)
    return alike


def _greatest_lots(fits, nears):
    """All greatest lots; if they are more than MOST_LOTS, perhaps not all, but more than MOST_LOTS.

    Whichever lot is wanted, take the one found that has the greatest connected part of it. If it is not the same,
    a row beside that part is missing: the lot with this row put in, and what quarrels with it put out, has more of
    what is wanted. So all are found that way, and the work grows with how many there are.
    """
    known = {}
    for row in range(len(fits)):
        known[_grown(fits, nears, 1 << row)] = True
    queue = list(known)
    at = 0
    while at < len(queue) and len(queue) <= MOST_LOTS:
        starts = _turned(fits, nears, queue[at])
        for start in starts:
            # A start that is itself known is greatest, and would grow to itself.
            lot = start if start in known else _grown(fits, nears, start)
            if lot not in known:
                known[lot] = True
                queue.append(lot)
        at += 1
    return queue


def _grown(fits, nears, lot):
    """A greatest lot that the lot lies in: the least row that can be put to it is, as long as there is one."""
    # All bits are set in -1: nothing is said yet of what agrees.
    room = -1
    reach = 0
    for row in _bits(lot):
        room &= fits[row]
        reach |= nears[row]
    while room & reach:
        row = _least_bit(room & reach)
        lot |= 1 << row
        room &= fits[row]
        reach |= nears[row]
    return lot


def _turned(fits, nears, lot):
    """For each row beside a lot: it, with those rows of the lot that agree with it and hang together with it."""
    reach = 0
    for row in _bits(lot):
        reach |= nears[row]
    return [_piece(nears, row, lot & fits[row]) for row in _bits(reach & ~lot)]


def _piece(nears, row, others):
    """A row with those of the others that hang together with it."""
    piece = 1 << row
    edge = piece
    within = others | piece
    while edge and piece != within:
        at = _least_bit(edge)
        fresh = nears[at] & within & ~piece
        piece |= fresh
        edge = edge ^ (1 << at) | fresh
    return piece


def _least_bit(mask):
    return (mask & -mask).bit_length() - 1


def _bits(mask):
    """The rows of a mask, rising."""
    rows = []
    while mask:
        row = _least_bit(mask)
        rows.append(row)
        mask = mask ^ (1 << row)
    return rows


def _tags(lot, rows, many):
    """A lot as tags, rows being the source and the tag of each row."""
    tags = [None] * many
    for row in _bits(lot):
        source, tag = rows[row]
        tags[source] = tag
    return tuple(tags)
