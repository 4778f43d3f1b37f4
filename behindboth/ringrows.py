"""The few rows of a ring that no plan merges rightly, whatever is paired."""

from behindboth.data import in_order
from behindboth.plans import cut, forks, made_plan
from behindboth.rings import made_ring


def ring_rows(book, ring):
    """Data of the sources of a ring alone: each has one row less than they are many."""
    made_ring(book, ring)
    sources, xs = ring
    data = [()] * len(book)
    for at, source in enumerate(sources):
        scheme = book[source]
        data[source] = tuple([_row(scheme, 2 * i, i == at, xs[i - 1]) for i in range(1, len(sources))])
    return tuple(data)


def ring_whole(book, ring):
    """The whole of the rows of a ring, in order."""
    made_ring(book, ring)
    sources = ring[0]
    lots = []
    for i in range(1, len(sources)):
        lots.extend(_two_lots(book, sources, i))
    return in_order(lots)


def beats(book, ring, plan):
    """A number i and the two lots of the rows with the tag i - 1, which no result of a plan has both."""
    made_ring(book, ring)
    made_plan(book, plan)
    sources = ring[0]
    left, _ = forks(cut(plan, tuple(sorted(sources))))[-1]
    i = 1
    # Both sides have sources of the ring, so somewhere one stands beside one of the other side.
    while (sources[i - 1] in left) == (sources[i] in left):
        i += 1
    one, two = _two_lots(book, sources, i)
    return (i, one, two)


def _row(scheme, worth, quarrels, x):
    """A row with one worth at each column, but, if it quarrels, one more at the column x."""
    return tuple([worth + 1 if quarrels and column == x else worth for column in scheme])


def _two_lots(book, sources, i):
    """The lots of the rows with the tag i - 1, in order: each lacks one of the two sources that quarrel there."""
    lots = []
    for lacking in (sources[i - 1], sources[i]):
        stays = [source in sources and source != lacking for source in range(len(book))]
        lots.append(tuple([i - 1 if here else None for here in stays]))
    return in_order(lots)
