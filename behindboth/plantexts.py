"""Plans and orders of sources as texts."""

from behindboth.errors import BadOrder, Lacking
from behindboth.housetexts import book_of, made_house, source_names
from behindboth.orders import order_form
from behindboth.plans import MOST_DEEP, made_plan
from behindboth.words import Reader, parted, text_of


def read_plan(house, text):
    """The plan of all sources of a house that a text tells."""
    made_house(house)
    reader = Reader(text)
    plan = plan_in(reader, house)
    reader.end()
    return made_plan(book_of(house), plan)


def print_plan(house, plan):
    """The text of a plan of all sources of a house."""
    made_plan(book_of(house), plan)
    return text_of(plan_words(house, plan))


def read_order(house, text):
    """The order of the sources of a house that a text tells."""
    made_house(house)
    names = source_names(house)
    reader = Reader(text)
    order = []
    reader.unlike(names, order)
    while reader.passes(","):
        reader.unlike(names, order)
    reader.end()
    for source in range(len(names)):
        if source not in order:
            raise Lacking(source)
    return tuple(order)


def print_order(house, order):
    """The text of an order of the sources of a house."""
    if not order_form(book_of(house), order):
        raise BadOrder(-1)
    names = source_names(house)
    return text_of(parted([[names[source]] for source in order], ","))


def plan_in(reader, house):
    """Reads a plan of some sources of a house."""
    return _part_in(reader, source_names(house), [], MOST_DEEP)


def plan_words(house, plan):
    """The words of a plan of some sources of a house."""
    if not isinstance(plan, tuple):
        return [source_names(house)[plan]]
    return ["("] + plan_words(house, plan[0]) + plan_words(house, plan[1]) + [")"]


def _part_in(reader, names, ahead, deep):
    """Reads a plan with unlike sources that do not stand ahead, in which so many brackets may be open at once."""
    if deep == 0 or not reader.passes("("):
        return reader.unlike(names, ahead)
    left = _part_in(reader, names, ahead, deep - 1)
    right = _part_in(reader, names, ahead, deep - 1)
    reader.need(")")
    return (left, right)
