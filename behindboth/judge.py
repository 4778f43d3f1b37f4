"""Whether plans are right, and why."""

from behindboth.books import common
from behindboth.forks import across_in, good_in, meet_in
from behindboth.groups import need_joined, pieces_in
from behindboth.plans import forks, is_plan, made_plan
from behindboth.ways import way_in


def plan_right(book, plan):
    """Whether a plan is a right plan of a book that hangs together."""
    # A book of a plan with good forks alone hangs together: there are neighbours across each.
    return is_plan(book, plan) and all(good_in(book, left, right) for left, right in forks(plan))


def judged(book, plan):
    """What both sides of each fork have, of a right plan; a paper that shows why it is wrong, of another one."""
    need_joined(book)
    made_plan(book, plan)
    sides = forks(plan)
    for fork, (left, right) in enumerate(sides):
        if not good_in(book, left, right):
            return _wrong_paper(book, sides, fork)
    return ("right", tuple([meet_in(book, left, right) for left, right in sides]))


def _wrong_paper(book, sides, fork):
    """A wrong paper, the fork being the first one that is not good."""
    left, right = sides[fork]
    both = meet_in(book, left, right)
    for s, t in across_in(book, left, right):
        lacking = [column for column in both if column not in common(book[s], book[t])]
        if lacking:
            z = lacking[0]
            return ("unlike", fork, s, t, z, _way_to(book, s, left, z), _way_to(book, t, right, z))
    return _apart_paper(book, sides, fork)


def _way_to(book, first, side, column):
    """A shortest way within a side from a source to one that has a column."""
    return way_in(book, first, side, tuple([source for source in side if column in book[source]]))


def _apart_paper(book, sides, fork):
    """A wrong paper, the fork being one without neighbours across.

    What it puts together is in pieces, and the book is not: so at one of the forks behind it two pieces of a side
    hang together by the other side.
    """
    way = ()
    while not way:
        fork += 1
        left, right = sides[fork]
        way = _way_round(book, left, right) or _way_round(book, right, left)
    return ("apart", fork, way)


def _way_round(book, side, other):
    """A way from one piece of a side to another one by the other side, () if there is none."""
    for piece in pieces_in(book, side):
        rest = tuple([source for source in side if source not in piece])
        for first in piece:
            way = way_in(book, first, other, rest)
            if way:
                return way
    return ()
