"""Ways from source to source by columns that they share."""

from behindboth.books import common


def way_in(schemes, first, within, ends):
    """A shortest way from a source, by sources of within, to one of ends; () if there is none.

    The schemes are those of a book, or what is left of them. Each two sources side by side on the way share a column
    of them. If the first source is one of ends, it is the way alone.
    """
    ways = [(first,)]
    met = [first]
    at = 0
    while at < len(ways):
        way = ways[at]
        at += 1
        if way[-1] in ends:
            return way
        for source in within + ends:
            if source not in met and common(schemes[way[-1]], schemes[source]):
                met.append(source)
                ways.append(way + (source,))
    return ()
