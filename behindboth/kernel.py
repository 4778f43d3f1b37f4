"""The kernel: judges of all papers, which lean on nothing but books, groups, plans and forks."""

from behindboth.books import COLUMN_LIMIT, common, is_book
from behindboth.forks import good_in, goes_last, meet_in
from behindboth.groups import columns_in, pieces_in
from behindboth.plans import forks, is_plan
from behindboth.values import number_below, rising_below, unlike_below


def right_right(book, plan, zs):
    """Whether a plan of a book is right, and zs has for each of its forks the columns that both sides have."""
    if not is_plan(book, plan) or not isinstance(zs, tuple) or len(zs) != len(forks(plan)):
        return False
    for (left, right), z in zip(forks(plan), zs):
        # True equals 1, but is no column: what looks right is told by its form, not by == alone.
        if not good_in(book, left, right) or not rising_below(z, COLUMN_LIMIT) or z != meet_in(book, left, right):
            return False
    return True


def wrong_right(book, plan, paper):
    """Whether a paper shows that a plan of a book is wrong."""
    if not is_plan(book, plan) or not isinstance(paper, tuple) or len(paper) < 2:
        return False
    if not number_below(paper[1], len(forks(plan))):
        return False
    if paper[0] == "apart" and len(paper) == 3:
        return _apart_right(book, plan, paper)
    return paper[0] == "unlike" and len(paper) == 7 and _unlike_right(book, plan, paper)


def ring_right(book, sources, xs):
    """Whether sources and columns are a ring of a book."""
    if not is_book(book) or not unlike_below(sources, len(book)) or not isinstance(xs, tuple):
        return False
    return 3 <= len(sources) == len(xs) and all(_link_right(book, sources, xs, i) for i in range(len(xs)))


def stuck_right(book, group):
    """Whether a group of two sources or more hangs together, and none of its sources can go last."""
    if not is_book(book) or not rising_below(group, len(book)) or len(group) < 2:
        return False
    return len(pieces_in(book, group)) == 1 and not any(goes_last(book, group, source) for source in group)


def coverer_right(book, source, group):
    """Whether a group without a source hangs together and has all columns of it."""
    if not is_book(book) or not number_below(source, len(book)) or not rising_below(group, len(book)):
        return False
    if source in group or len(pieces_in(book, group)) != 1:
        return False
    return common(book[source], columns_in(book, group)) == book[source]


def _apart_right(book, plan, paper):
    """As wrong_right, of a paper with two pieces of one side that hang together by the other side."""
    _, fork, way = paper
    if not unlike_below(way, len(book)) or len(way) < 3 or not _side_by_side(book, way):
        return False
    left, right = forks(plan)[fork]
    side, other = (left, right) if way[0] in left else (right, left)
    if way[0] not in side or way[-1] not in side or not all(source in other for source in way[1:-1]):
        return False
    return not any(way[0] in piece and way[-1] in piece for piece in pieces_in(book, side))


def _unlike_right(book, plan, paper):
    """As wrong_right, of a paper with two neighbours across that do not share all that both sides have."""
    _, fork, s, t, z, left_way, right_way = paper
    left, right = forks(plan)[fork]
    if not _way_right(book, left_way, left, s, z) or not _way_right(book, right_way, right, t, z):
        return False
    both = common(book[s], book[t])
    if not both or z in both:
        return False
    within = [sides for sides in forks(plan)[:fork] if sides[0][0] in left + right]
    return all(good_in(book, one, two) for one, two in within)


def _way_right(book, way, side, first, z):
    """Whether a way within a side begins with a source and ends with one that has a column."""
    if not unlike_below(way, len(book)) or not number_below(first, len(book)) or not number_below(z, COLUMN_LIMIT):
        return False
    if way[0] != first or z not in book[way[-1]] or not all(source in side for source in way):
        return False
    return _side_by_side(book, way)


def _side_by_side(book, way):
    """Whether each two sources of a way that stand side by side are neighbours."""
    return all(len(common(book[one], book[two])) > 0 for one, two in zip(way, way[1:]))


def _link_right(book, sources, xs, i):
    """Whether the sources of a ring have the column with this index as they have to."""
    many = len(sources)
    if not number_below(xs[i], COLUMN_LIMIT):
        return False
    having = [at for at in range(many) if xs[i] in book[sources[at]]]
    if i == many - 1:
        return 0 in having and i in having
    return having == [i, i + 1]
