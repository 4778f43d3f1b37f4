"""Rows that come and go, and which of them fit one another.

Each row has a bit of its own here, and a set of rows is kept as a number, the bits of which are its rows: so that many
rows can be compared at once.
"""

from behindboth.books import common
from behindboth.errors import TooMany

MOST_LOTS = 3000


class Fitting:
    """Rows of a book. What is handed in is not checked."""

    def __init__(self, book):
        self.by_tag = [{} for _ in book]
        self._bits = {}
        self._owners = []
        self._free = []
        # For each bit the rows of other sources that agree with its row, and those of them that share a column with it.
        self._fits = []
        self._nears = []
        # For each source and each other one: where it has the columns of both, and its rows by their worths there.
        self._joints = [[[one.index(column) for column in common(one, two)] for two in book] for one in book]
        self._alike = [[{} for two in book] for one in book]

    def put(self, source, tag, row):
        """Puts a row of a source, with a tag that no row of it has."""
        bit = self._new_bit()
        self.by_tag[source][tag] = row
        self._bits[(source, tag)] = bit
        self._owners[bit] = (source, tag)
        fit, near = self._masks(source, row)
        self._fits[bit] = fit
        self._nears[bit] = near
        self._flip(source, row, bit)

    def take(self, source, tag):
        """Takes a row away."""
        row = self.by_tag[source].pop(tag)
        bit = self._bits.pop((source, tag))
        self._flip(source, row, bit)
        self._fits[bit] = 0
        self._nears[bit] = 0
        self._free.append(bit)

    def lot_of(self, tags):
        """The rows that tags tell, as a number."""
        lot = 0
        for source, tag in enumerate(tags):
            if tag is not None:
                lot = lot | 1 << self._bits[(source, tag)]
        return lot

    def tags_of(self, lot):
        """The tags of rows that are told by a number."""
        tags = [None] * len(self.by_tag)
        for bit in _bits_in(lot):
            source, tag = self._owners[bit]
            tags[source] = tag
        return tuple(tags)

    def greatest(self):
        """All greatest lots; TooMany if they are more than MOST_LOTS."""
        lots = self._found([1 << bit for bit in self._bits.values()], 0)
        if len(lots) > MOST_LOTS:
            raise TooMany(MOST_LOTS)
        return lots

    def coming(self, source, tag, lots):
        """All greatest lots that have a row, lots being all that are greatest without it.

        If they are more than MOST_LOTS, perhaps not all, but more than MOST_LOTS.
        """
        bit = self._bits[(source, tag)]
        rests = {lot & self._fits[bit]: True for lot in lots if lot & self._nears[bit]}
        starts = [1 << bit]
        starts.extend([self._piece(bit, rest) for rest in rests])
        return self._found(starts, 1 << bit)

    def going(self, source, tag, lots):
        """Those lots that are still lots together with a row that they do not have."""
        bit = self._bits[(source, tag)]
        return [lot for lot in lots if lot & self._nears[bit] and not lot & ~self._fits[bit]]

    def left(self, source, tag, lots):
        """The greatest lots of all rows but one that come when it goes, lots being all greatest ones that have it."""
        gone = 1 << self._bits[(source, tag)]
        pieces = {}
        for lot in lots:
            rest = lot & ~gone
            while rest:
                piece = self._piece(_least_bit(rest), rest)
                pieces[piece] = True
                rest = rest & ~piece
        return [piece for piece in pieces if not self._room(piece) & self._reach(piece) & ~gone]

    def _new_bit(self):
        """A bit that no row has."""
        if self._free:
            return self._free.pop()
        self._owners.append(None)
        self._fits.append(0)
        self._nears.append(0)
        return len(self._owners) - 1

    def _worths(self, source, other, row):
        """What a row of a source has in the columns that another source has, too."""
        return tuple([row[at] for at in self._joints[source][other]])

    def _masks(self, source, row):
        """The rows of other sources that agree with a row, and those of them that share a column with it."""
        fit = 0
        near = 0
        for other in range(len(self._alike)):
            if other != source:
                worths = self._worths(source, other, row)
                mask = self._alike[other][source].get(worths, 0)
                fit = fit | mask
                near = near | mask if worths else near
        return fit, near

    def _flip(self, source, row, bit):
        """Puts a row to what is known of the other ones, or takes it off there."""
        mask = 1 << bit
        for other in range(len(self._alike)):
            worths = self._worths(source, other, row)
            alike = self._alike[source][other]
            alike[worths] = alike.get(worths, 0) ^ mask
            if not alike[worths]:
                del alike[worths]
        fits = _bits_in(self._fits[bit])
        nears = _bits_in(self._nears[bit])
        for other in fits:
            self._fits[other] ^= mask
        for other in nears:
            self._nears[other] ^= mask

    def _found(self, starts, root):
        """All greatest lots that have the rows of root, found from some that do; at least one start lies in each.

        Whichever lot is wanted, take the one found that has the greatest connected part of it. If it is not the same,
        a row beside that part is missing: the lot with this row put in, and what quarrels with it put out, has more of
        what is wanted. So all are found that way, and the work grows with how many there are.
        If they are more than MOST_LOTS, perhaps not all are told, but more than MOST_LOTS.
        """
        known = {self._grown(start): True for start in starts}
        queue = list(known)
        tried = {}
        at = 0
        while at < len(queue) and len(queue) <= MOST_LOTS:
            for start in self._turned(queue[at], root, known):
                if start not in tried:
                    tried[start] = True
                    lot = self._grown(start)
                    if lot not in known:
                        known[lot] = True
                        queue.append(lot)
            at += 1
        return queue

    def _turned(self, lot, root, known):
        """For each row beside a lot: it, with those rows of the lot that agree and hang together with it.

        Told are only those that have the rows of root, and that may be new: not such as are known to be greatest.
        """
        starts = []
        for row in _bits_in(self._reach(lot) & self._room(root) & ~lot):
            rest = lot & self._fits[row]
            if not root & ~rest and (rest | 1 << row) not in known:
                piece = self._piece(row, rest)
                if not root & ~piece:
                    starts.append(piece)
        return starts

    def _grown(self, lot):
        """A greatest lot that the lot lies in: the least row that can be put to it is, as long as there is one."""
        room = self._room(lot)
        reach = self._reach(lot)
        while room & reach:
            row = _least_bit(room & reach)
            lot = lot | 1 << row
            room = room & self._fits[row]
            reach = reach | self._nears[row]
        return lot

    def _room(self, lot):
        """The rows that agree with all rows of a lot; all bits are set where nothing is said yet of what agrees."""
        room = -1
        for row in _bits_in(lot):
            room = room & self._fits[row]
        return room

    def _reach(self, lot):
        """The rows that agree, and share a column, with some row of a lot."""
        reach = 0
        for row in _bits_in(lot):
            reach = reach | self._nears[row]
        return reach

    def _piece(self, row, others):
        """A row with those of the others that hang together with it."""
        piece = 1 << row
        edge = piece
        within = others | piece
        while edge and piece != within:
            at = _least_bit(edge)
            fresh = self._nears[at] & within & ~piece
            piece = piece | fresh
            edge = (edge ^ 1 << at) | fresh
        return piece


def fitting_of(book, data):
    """All rows of data, with their tags."""
    fitting = Fitting(book)
    for source, rows in enumerate(data):
        for tag, row in enumerate(rows):
            fitting.put(source, tag, row)
    return fitting


def _least_bit(mask):
    return (mask & -mask).bit_length() - 1


def _bits_in(mask):
    """The bits of a number, rising."""
    bits = []
    while mask:
        bit = _least_bit(mask)
        bits.append(bit)
        mask = mask ^ 1 << bit
    return bits
