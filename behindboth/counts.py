"""Right plans counted and numbered, those with the same plain form as one."""

from behindboth.errors import BadNumber, NotRight
from behindboth.groups import everyone, need_few, need_joined
from behindboth.judge import plan_right
from behindboth.plans import leaves, made_plan, plain
from behindboth.splits import splits_in
from behindboth.values import number_below


def count(book):
    """How many plain right plans a book has."""
    need_joined(book)
    need_few(book)
    return _count_in(book, everyone(book), {})


def nth(book, k):
    """The plain right plan with a number."""
    need_joined(book)
    need_few(book)
    known = {}
    group = everyone(book)
    if not number_below(k, _count_in(book, group, known)):
        raise BadNumber(k)
    return _nth_in(book, group, k, known)


def number(book, plan):
    """The number of the plain form of a right plan."""
    need_joined(book)
    made_plan(book, plan)
    need_few(book)
    if not plan_right(book, plan):
        raise NotRight(0)
    return _number_in(book, plain(plan), {})


def _count_in(book, group, known):
    """How many plain right plans a group has; known has what was found before."""
    if len(group) == 1:
        return 1
    if group not in known:
        many = 0
        for left, right in splits_in(book, group):
            many = many + _count_in(book, left, known) * _count_in(book, right, known)
        known[group] = many
    return known[group]


def _nth_in(book, group, k, known):
    """The plain right plan of a group with a number that there is."""
    ahead = 0
    for left, right in splits_in(book, group):
        rights = _count_in(book, right, known)
        many = _count_in(book, left, known) * rights
        if k < ahead + many:
            one, two = divmod(k - ahead, rights)
            return (_nth_in(book, left, one, known), _nth_in(book, right, two, known))
        ahead = ahead + many
    return group[0]


def _number_in(book, plan, known):
    """The number of a plain right plan of some sources among those of these sources."""
    if not isinstance(plan, tuple):
        return 0
    sides = (leaves(plan[0]), leaves(plan[1]))
    ahead = [split for split in splits_in(book, leaves(plan)) if split < sides]
    many = sum([_count_in(book, left, known) * _count_in(book, right, known) for left, right in ahead])
    lefts = _number_in(book, plan[0], known)
    return many + lefts * _count_in(book, sides[1], known) + _number_in(book, plan[1], known)
