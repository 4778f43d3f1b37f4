"""The kept whole: rows come and go, and the whole of them follows."""

from behindboth.books import made_book, need_source
from behindboth.data import MOST_ROWS, in_order, row_form
from behindboth.errors import BadRow, Full, HasRow, NoRow, NothingToRedo, NothingToUndo, TooMany
from behindboth.fitting import MOST_LOTS, Fitting, fitting_of
from behindboth.values import number_below, number_from_zero

MOST_UNDONE = 100


class Change:
    """A row that was put, or taken away, and the lots that came and that went by it, each in order."""

    def __init__(self, puts, source, tag, row, lots):
        self.puts = puts
        self.source = source
        self.tag = tag
        self.row = row
        self.lots = lots

    def turned(self):
        """The change that leads back."""
        come, gone = self.lots
        return Change(not self.puts, self.source, self.tag, self.row, (gone, come))


class Kept:
    """Rows of a book, which come and go, and their whole."""

    def __init__(self, book):
        self._book = made_book(book)
        self._fitting = Fitting(book)
        # The lots of the whole by their tags, as numbers that tell their rows.
        self._lots = {}
        self._next_tags = [0] * len(book)
        self._done = []
        self._undone = []
        self._last = None

    def put(self, source, row):
        """Puts a row of a source; its tag."""
        need_source(self._book, source)
        if not row_form(self._book[source], row):
            raise BadRow(-1)
        there = self._fitting.by_tag[source]
        for tag, other in there.items():
            if other == row:
                raise HasRow(tag)
        if len(there) == MOST_ROWS:
            raise Full(source)
        tag = self._next_tags[source]
        lots = self._lots_of_put(source, tag, row)
        self._next_tags[source] += 1
        self._grant(Change(True, source, tag, row, lots))
        return tag

    def take(self, source, tag):
        """Takes the row of a source with this tag away."""
        if not number_below(source, len(self._book)) or not number_from_zero(tag):
            raise NoRow((source, tag))
        there = self._fitting.by_tag[source]
        if tag not in there:
            raise NoRow((source, tag))
        row = there[tag]
        lots = self._lots_of_take(source, tag)
        self._fitting.take(source, tag)
        self._grant(Change(False, source, tag, row, lots))

    def undo(self):
        """Undoes the last put or take that is not undone."""
        if not self._done:
            raise NothingToUndo(0)
        change = self._done.pop()
        self._undone.append(change)
        self._do(change.turned())

    def redo(self):
        """Does that again which was undone last."""
        if not self._undone:
            raise NothingToRedo(0)
        change = self._undone.pop()
        self._done.append(change)
        self._do(change)

    def rows(self, source):
        """The rows of a source: pairs of a tag and a row, rising."""
        need_source(self._book, source)
        return tuple(sorted(self._fitting.by_tag[source].items()))

    def whole(self):
        """The whole of all rows that are there, in order."""
        return in_order(list(self._lots))

    def data(self):
        """All rows that are there as data, those of a source in the order of their tags."""
        return tuple([tuple([there[tag] for tag in sorted(there)]) for there in self._fitting.by_tag])

    def news(self):
        """The lots that came, and those that went, by the last change."""
        return ((), ()) if self._last is None else self._last.lots

    def seen(self):
        """For each source its rows by their tags, with a row that went by the last change: all that news tells of."""
        rows = [dict(there) for there in self._fitting.by_tag]
        if self._last is not None:
            rows[self._last.source][self._last.tag] = self._last.row
        return rows

    def fill(self, data):
        """Keeps just the rows of data from now on, with the tags that they have there, as if nothing had been yet.

        TooMany if the whole has more than MOST_LOTS. The data are not checked.
        """
        fitting = fitting_of(self._book, data)
        self._lots = {fitting.tags_of(lot): lot for lot in fitting.greatest()}
        self._fitting = fitting
        self._next_tags = [len(rows) for rows in data]
        self._done = []
        self._undone = []
        self._last = None

    def _lots_of_put(self, source, tag, row):
        """Puts a row to those there are, unless it is refused; the lots that come and that go."""
        lots = list(self._lots.values())
        fitting = self._fitting
        fitting.put(source, tag, row)
        come = fitting.coming(source, tag, lots)
        gone = fitting.going(source, tag, lots)
        if len(lots) + len(come) - len(gone) > MOST_LOTS:
            fitting.take(source, tag)
            raise TooMany(MOST_LOTS)
        return self._told(come, gone)

    def _lots_of_take(self, source, tag):
        """The lots that come and that go if a row is taken away; refused if they are too many."""
        gone = [lot for tags, lot in self._lots.items() if tags[source] == tag]
        come = self._fitting.left(source, tag, gone)
        if len(self._lots) + len(come) - len(gone) > MOST_LOTS:
            raise TooMany(MOST_LOTS)
        return self._told(come, gone)

    def _told(self, come, gone):
        """Lots that come and that go as tags, each in order."""
        fitting = self._fitting
        return tuple([in_order([fitting.tags_of(lot) for lot in lots]) for lots in (come, gone)])

    def _grant(self, change):
        """Keeps the lots and the change, when a row was put or taken away."""
        self._done.append(change)
        if len(self._done) > MOST_UNDONE:
            del self._done[0]
        self._undone = []
        self._follow(change)

    def _do(self, change):
        """Puts or takes a row as a change tells."""
        if change.puts:
            self._fitting.put(change.source, change.tag, change.row)
        else:
            self._fitting.take(change.source, change.tag)
        self._follow(change)

    def _follow(self, change):
        """Leads the lots over to what a change of the rows has made of them."""
        come, gone = change.lots
        for tags in gone:
            del self._lots[tags]
        for tags in come:
            self._lots[tags] = self._fitting.lot_of(tags)
        self._last = change
