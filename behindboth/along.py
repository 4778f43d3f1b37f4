"""Rows kept along a right plan, and the results of its forks."""

from behindboth.errors import BadFork, NotRight
from behindboth.groups import need_joined
from behindboth.judge import plan_right
from behindboth.kept import Kept
from behindboth.parts import parts_in
from behindboth.plans import forks, made_plan
from behindboth.values import number_below


class Along:
    """Rows of a book, which come and go, and the results of all forks of a right plan.

    By a right plan each fork gives the whole of its sources alone, and so its part of the whole of all rows.
    """

    def __init__(self, book, plan):
        need_joined(book)
        made_plan(book, plan)
        if not plan_right(book, plan):
            raise NotRight(0)
        self._book = book
        self._groups = [left + right for left, right in forks(plan)]
        self._kept = Kept(book)
        # The results that were told, and None for those that have to be told anew.
        self._stages = [None] * len(self._groups)
        self._touched = ()

    def put(self, source, row):
        """Puts a row of a source; its tag."""
        tag = self._kept.put(source, row)
        self._touch(source)
        return tag

    def take(self, source, tag):
        """Takes the row of a source with this tag away."""
        self._kept.take(source, tag)
        self._touch(source)

    def rows(self, source):
        """The rows of a source: pairs of a tag and a row, rising."""
        return self._kept.rows(source)

    def stage(self, fork):
        """What the fork with this number gives for the rows that are there, in order."""
        if not number_below(fork, len(self._groups)):
            raise BadFork(fork)
        if self._stages[fork] is None:
            self._stages[fork] = parts_in(self._book, self._kept.whole(), self._groups[fork])
        return self._stages[fork]

    def touched(self):
        """The forks whose result was changed by the last put or take, rising."""
        return self._touched

    def _touch(self, source):
        """Notes that the rows of a source were changed."""
        self._touched = tuple([fork for fork, group in enumerate(self._groups) if source in group])
        for fork in self._touched:
            self._stages[fork] = None
