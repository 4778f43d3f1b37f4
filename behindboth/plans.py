"""Plans: sources put together two by two, and the forks at which that is done."""

from behindboth.books import MOST_SOURCES, made_book
from behindboth.errors import BadGroup, BadOrder, BadPlan, Lacking, Refused, Twice
from behindboth.values import number_below, rising_below, unlike_below

MOST_DEEP = 11


def made_plan(book, thing):
    """A thing that is a plan in which each source of a book stands; BadPlan, Twice or Lacking if it is none."""
    made_part(book, thing)
    sources = _sources(thing)
    for source in range(len(book)):
        if source not in sources:
            raise Lacking(source)
    return thing


def made_part(book, thing):
    """A thing that is a plan of some sources of a book; BadPlan or Twice if it is none."""
    made_book(book)
    return _checked(thing, len(book))


def is_plan(book, thing):
    """Whether a thing is a plan in which each source of a book stands."""
    try:
        made_plan(book, thing)
    except Refused:
        return False
    return True


def leaves(plan):
    """The group of the sources of a plan."""
    _checked(plan, MOST_SOURCES)
    return tuple(sorted(_sources(plan)))


def forks(plan):
    """The left and the right group of each fork of a plan, in the order of forks."""
    _checked(plan, MOST_SOURCES)
    found = []
    _put_forks(plan, found)
    return tuple(found)


def cut(plan, group):
    """The plan that is left when only the sources of a group stay."""
    _checked(plan, MOST_SOURCES)
    sources = _sources(plan)
    if not rising_below(group, MOST_SOURCES) or any(source not in sources for source in group):
        raise BadGroup(-1)
    return _kept(plan, group)


def plain(plan):
    """The plan with left and right exchanged at each fork whose right side has the least source of the fork."""
    _checked(plan, MOST_SOURCES)
    return _plain(plan)


def plan_of(order):
    """The plan that puts sources together one behind another, in their order."""
    if not unlike_below(order, MOST_SOURCES):
        raise BadOrder(-1)
    plan = order[0]
    for source in order[1:]:
        plan = (plan, source)
    return plan


def _checked(thing, many):
    """A thing that is a plan of some of so many sources."""
    if not _plan_form(thing, many, MOST_DEEP):
        raise BadPlan(-1)
    ahead = []
    for source in _sources(thing):
        if source in ahead:
            raise Twice(source)
        ahead.append(source)
    return thing


def _plan_form(thing, many, deep):
    """Whether a thing is made of forks, at most so many deep, and sources, whatever stands there twice."""
    if not isinstance(thing, tuple):
        return number_below(thing, many)
    return deep > 0 and len(thing) == 2 and all(_plan_form(side, many, deep - 1) for side in thing)


def _sources(plan):
    """The sources of a plan from the left, one that stands there twice twice."""
    if not isinstance(plan, tuple):
        return [plan]
    return _sources(plan[0]) + _sources(plan[1])


def _put_forks(plan, found):
    """Puts the forks of a plan to those that are found; the group of the plan."""
    if not isinstance(plan, tuple):
        return (plan,)
    left = _put_forks(plan[0], found)
    right = _put_forks(plan[1], found)
    found.append((left, right))
    return tuple(sorted(left + right))


def _kept(plan, group):
    """As cut, but None if no source of the group is there."""
    if not isinstance(plan, tuple):
        return plan if plan in group else None
    left = _kept(plan[0], group)
    right = _kept(plan[1], group)
    if left is None:
        return right
    return left if right is None else (left, right)


def _plain(plan):
    if not isinstance(plan, tuple):
        return plan
    left = _plain(plan[0])
    right = _plain(plan[1])
    return (left, right) if _first(left) < _first(right) else (right, left)


def _first(plan):
    """The leftmost source of a plan, in a plain one the least."""
    while isinstance(plan, tuple):
        plan = plan[0]
    return plan
