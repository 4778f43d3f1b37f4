"""Rings: the sources that keep a book from having a right plan."""

from behindboth.errors import BadRing
from behindboth.groups import need_joined
from behindboth.kernel import ring_right
from behindboth.planner import plan_or_ring


def ring(book):
    """A ring of a book, None if there is none."""
    told = plan_or_ring(book)
    return told[1:] if told[0] == "ring" else None


def why(book):
    """("plan", a right plan) of a book, or ("ring", sources, xs) with a ring of it."""
    return plan_or_ring(book)


def made_ring(book, thing):
    """A thing that is a ring of a book; BadRing if it is none."""
    need_joined(book)
    if not isinstance(thing, tuple) or len(thing) != 2 or not ring_right(book, thing[0], thing[1]):
        raise BadRing(0)
    return thing
