"""The whole of data: all greatest lots, in print the full disjunction."""

from behindboth.books import is_book
from behindboth.data import in_order, made_data, tags_form
from behindboth.errors import Refused
from behindboth.fitting import MOST_LOTS, fitting_of


def whole(book, data):
    """All lots of the data that lie in no other lot, in order."""
    made_data(book, data)
    fitting = fitting_of(book, data)
    return in_order([fitting.tags_of(lot) for lot in fitting.greatest()])


def is_whole(book, data, thing):
    """Whether a thing is the whole of the data of a book."""
    if not is_book(book) or not isinstance(thing, tuple) or len(thing) > MOST_LOTS:
        return False
    # True equals 1, but is no tag: what looks right is told by its form, not by == alone.
    if not all(tags_form(book, tags) for tags in thing):
        return False
    try:
        lots = whole(book, data)
    except Refused:
        return False
    return thing == lots
