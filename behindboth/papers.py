"""Data by which wrong plans go wrong."""

from behindboth.errors import BadPaper
from behindboth.groups import need_joined
from behindboth.kernel import wrong_right
from behindboth.plans import made_plan


def spoilt(book, plan, paper):
    """Data, and two sources the rows of which the plan does not put together, though they are in one lot."""
    need_joined(book)
    made_plan(book, plan)
    if not wrong_right(book, plan, paper):
        raise BadPaper(0)
    if paper[0] == "apart":
        way = paper[2]
        return (_rows(book, way, (), ()), way[0], way[-1])
    _, _, s, t, z, left_way, right_way = paper
    return (_rows(book, left_way, right_way, (z,)), s, t)


def _rows(book, zeros, ones, some):
    """Data with a row in each source of zeros and ones: worths 0, but in the sources of ones 1 at some columns."""
    data = []
    for source, scheme in enumerate(book):
        if source in zeros:
            data.append(((0,) * len(scheme),))
        elif source in ones:
            data.append((tuple([1 if column in some else 0 for column in scheme]),))
        else:
            data.append(())
    return tuple(data)
