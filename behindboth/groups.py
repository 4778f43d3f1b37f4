"""Groups of sources, and how they hang together."""

from behindboth.books import all_columns, common, made_book
from behindboth.errors import Apart, BadGroup, TooMany
from behindboth.values import rising_below

MOST_COUNTED = 8


def made_group(book, thing):
    """A thing that is a group of sources of a book; BadGroup if it is none."""
    made_book(book)
    if not rising_below(thing, len(book)):
        raise BadGroup(-1)
    return thing


def group_columns(book, group):
    """All columns that the sources of a group have, rising."""
    made_group(book, group)
    return columns_in(book, group)


def pieces(book, group):
    """The greatest groups within a group that hang together, by their least sources."""
    made_group(book, group)
    return pieces_in(book, group)


def hangs(book, group):
    """Whether a group hangs together."""
    made_group(book, group)
    return len(pieces_in(book, group)) == 1


def everyone(book):
    """The group of all sources of a book."""
    return tuple(range(len(book)))


def without(group, source):
    """A group without a source of it."""
    return tuple([other for other in group if other != source])


def need_hanging(book, group):
    """Apart unless a group hangs together, of a book and a group that are known to be right."""
    parts = pieces_in(book, group)
    if len(parts) > 1:
        raise Apart(parts[1][0])


def need_joined(book):
    """BadBook unless a thing is a book, Apart unless it hangs together."""
    made_book(book)
    need_hanging(book, everyone(book))


def need_few(book):
    """TooMany if a book has so many sources that not all of its groups are looked at."""
    if len(book) > MOST_COUNTED:
        raise TooMany(len(book))


def columns_in(book, group):
    """As group_columns, of a book and a group that are known to be right."""
    return all_columns([book[source] for source in group])


def pieces_in(book, group):
    """As pieces, of a group that is known to be right, and of a book, or of what is left of its schemes."""
    found = []
    rest = group
    while rest:
        piece = _piece_from(book, rest[0], rest)
        found.append(piece)
        rest = tuple([source for source in rest if source not in piece])
    return tuple(found)


def _piece_from(book, first, group):
    """All sources of a group that can be come to from the first one, rising."""
    reached = [first]
    at = 0
    while at < len(reached):
        here = book[reached[at]]
        at += 1
        for source in group:
            if source not in reached and common(here, book[source]):
                reached.append(source)
    return tuple(sorted(reached))
