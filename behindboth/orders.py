"""Orders of sources: plans that put one source behind another."""

from behindboth.books import is_book
from behindboth.errors import BadOrder
from behindboth.forks import goes_last
from behindboth.groups import everyone, need_few, need_joined, without
from behindboth.judge import plan_right
from behindboth.planner import plan_or_ring
from behindboth.plans import plan_of
from behindboth.thirds import thirds_in
from behindboth.values import unlike_below


def made_order(book, thing):
    """A thing that is an order of the sources of a book; BadOrder if it is none."""
    need_joined(book)
    if not order_form(book, thing):
        raise BadOrder(-1)
    return thing


def order_right(book, order):
    """Whether an order is one of a book that hangs together, and its plan is right."""
    return is_book(book) and order_form(book, order) and plan_right(book, plan_of(order))


def order(book):
    """A right order of a book, None if there is none."""
    need_joined(book)
    left, taken = _taken_off(book)
    return left + taken if len(left) == 1 else None


def stuck(book):
    """A group that hangs together, in which no source can go last; None if there is a right order."""
    need_joined(book)
    left, _ = _taken_off(book)
    return left if len(left) > 1 else None


def any_plan(book):
    """Whether each plan whose forks all have neighbours across is right."""
    need_joined(book)
    return not thirds_in(book) and plan_or_ring(book)[0] == "plan"


def orders_count(book):
    """How many right orders a book has."""
    need_joined(book)
    need_few(book)
    return _orders_in(book, everyone(book), {})


def order_form(book, thing):
    """Whether a thing has each source of a book once."""
    return unlike_below(thing, len(book)) and len(thing) == len(book)


def _taken_off(book):
    """What is left if sources that can go last are taken off one by one, and what is taken off, first ones last."""
    left = everyone(book)
    taken = ()
    lasts = _lasts(book, left)
    while lasts:
        left = without(left, lasts[0])
        taken = (lasts[0],) + taken
        lasts = _lasts(book, left)
    return left, taken


def _lasts(book, group):
    """The sources that can go last in a group that hangs together."""
    return [source for source in group if len(group) > 1 and goes_last(book, group, source)]


def _orders_in(book, group, known):
    """How many right orders a group has; known has what was found before."""
    if len(group) == 1:
        return 1
    if group not in known:
        known[group] = sum([_orders_in(book, without(group, source), known) for source in _lasts(book, group)])
    return known[group]
