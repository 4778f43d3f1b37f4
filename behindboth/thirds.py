"""Thirds: sources that have to come in behind two others."""

from behindboth.books import common, partly
from behindboth.groups import need_joined
from behindboth.plans import forks, made_plan


def thirds(book):
    """All triples (p, q, r) such that r has some, but not all, of what p and q share, in order."""
    need_joined(book)
    return thirds_in(book)


def shows(book, plan):
    """Whether for each third (p, q, r) the least part of a plan that has p and q does not have r."""
    need_joined(book)
    made_plan(book, plan)
    parts = [left + right for left, right in forks(plan)]
    return all(r not in _least_part(parts, p, q) for p, q, r in thirds_in(book))


def thirds_in(book):
    """As thirds, of a book that is known to be right."""
    found = []
    for p, one in enumerate(book):
        for q in range(p + 1, len(book)):
            both = common(one, book[q])
            # p and q themselves have all of it.
            found.extend([(p, q, r) for r, scheme in enumerate(book) if partly(scheme, both)])
    return tuple(found)


def _least_part(parts, p, q):
    """The least part that has p and q; ahead of each part stand those that it has."""
    return [part for part in parts if p in part and q in part][0]
