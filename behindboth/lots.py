"""Lots: rows that fit one another and hang together."""

from behindboth.data import filled, have, made_tags
from behindboth.errors import BadTags, Refused
from behindboth.groups import pieces_in


def is_lot(book, data, thing):
    """Whether a thing is a lot of the data of a book."""
    try:
        made_tags(book, data, thing)
    except Refused:
        return False
    return len(pieces_in(book, have(thing))) == 1 and _rows_agree(book, data, thing)


def _rows_agree(book, data, tags):
    """Whether each row has the worths that the tags show."""
    worths = filled(book, data, tags)
    for source in have(tags):
        row = data[source][tags[source]]
        if any(worths[column] != worth for column, worth in zip(book[source], row)):
            return False
    return True


def lies_in(one, two):
    """Whether each part of one that is not None is the part of two at the same place."""
    if not isinstance(one, tuple) or not isinstance(two, tuple) or len(one) != len(two):
        raise BadTags(0)
    return all(part is None or part == other for part, other in zip(one, two))
