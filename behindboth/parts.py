"""Parts and joins of groups, told out of lots."""

from behindboth.books import made_book
from behindboth.data import in_order
from behindboth.errors import BadLots
from behindboth.groups import made_group, pieces_in
from behindboth.values import number_below

# Tags in lots that are handed in are below this.
TAG_LIMIT = 1000000
# Pieces are compared with so many at once, as each of these takes a bit for each of its rows.
BLOCK = 4096


def part_of(book, lots, group):
    """All pieces of a group's parts of lots that lie in no other one of them, in order."""
    need_lots(book, lots)
    made_group(book, group)
    return parts_in(book, lots, group)


def join_of(book, lots, group):
    """A group's parts of those lots that have tags of all of its sources, each once, in order."""
    need_lots(book, lots)
    made_group(book, group)
    found = {_part(lot, group): True for lot in lots if all(lot[source] is not None for source in group)}
    return in_order(list(found))


def need_lots(book, thing):
    """BadBook unless there is a book, BadLots unless a thing are tags that may be lots of it."""
    made_book(book)
    if not isinstance(thing, tuple):
        raise BadLots(-1)
    for index, tags in enumerate(thing):
        if not lot_form(book, tags):
            raise BadLots(index)


def lot_form(book, thing):
    """Whether a thing has a tag within the limit, or None, for each source of a book, and not None for all."""
    if not isinstance(thing, tuple) or len(thing) != len(book):
        return False
    told = [tag for tag in thing if tag is not None]
    return len(told) > 0 and all(number_below(tag, TAG_LIMIT) for tag in told)


def parts_in(book, lots, group):
    """As part_of, of a book, lots and a group that are known to be right."""
    pieces = _pieces(book, lots, group)
    found = pieces
    for start in range(0, len(pieces), BLOCK):
        block = pieces[start:start + BLOCK]
        holders = _holders(block)
        own = {piece: 1 << at for at, piece in enumerate(block)}
        found = [piece for piece in found if not _held(piece, holders) & ~own.get(piece, 0)]
    return in_order(found)


def _pieces(book, lots, group):
    """The pieces of a group's parts of lots, each once."""
    pieces = {}
    known = {}
    for lot in lots:
        there = tuple([source for source in group if lot[source] is not None])
        if there not in known:
            known[there] = pieces_in(book, there)
        for piece in known[there]:
            pieces[_part(lot, piece)] = True
    return list(pieces)


def _holders(block):
    """For each row the pieces of a block that have it, as a number with a bit for each piece."""
    holders = {}
    for at, piece in enumerate(block):
        for source, tag in enumerate(piece):
            if tag is not None:
                holders[(source, tag)] = holders.get((source, tag), 0) | 1 << at
    return holders


def _held(tags, holders):
    """The pieces of a block that tags lie in, as a number with a bit for each piece."""
    held = -1
    for source, tag in enumerate(tags):
        if tag is not None:
            held = held & holders.get((source, tag), 0)
    return held


def _part(tags, group):
    """Tags with None for all sources outside of a group."""
    return tuple([tag if source in group else None for source, tag in enumerate(tags)])
