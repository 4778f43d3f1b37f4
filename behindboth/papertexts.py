"""What is told of plans and of books, as texts."""

from behindboth.errors import BadPaper
from behindboth.housetexts import book_of, made_house, source_names
from behindboth.plans import is_plan, made_plan
from behindboth.plantexts import plan_in, plan_words
from behindboth.rules import COUNT_LIMIT
from behindboth.values import number_below, rising_below, unlike_below
from behindboth.words import Reader, parted, text_of

# A way of an apart paper, and a ring, have so many sources at least.
LEAST_SOURCES = 3


def read_judged(house, text):
    """What a text tells of a plan."""
    made_house(house)
    reader = Reader(text)
    word = reader.one_of(("right", "apart", "unlike"))
    if word == "right":
        paper = _right_in(reader, house)
    elif word == "apart":
        paper = _apart_in(reader, house)
    else:
        paper = _unlike_in(reader, house)
    reader.end()
    return paper


def print_judged(house, told):
    """The text of what is told of a plan."""
    if not _judged_form(book_of(house), len(house[0]), told):
        raise BadPaper(0)
    if told[0] == "right":
        return text_of(["right", ":"] + parted([_names(house[0], z) for z in told[1]], "|"))
    names = source_names(house)
    if told[0] == "apart":
        return text_of(["apart", str(told[1]), ":"] + _names(names, told[2]))
    _, fork, s, t, z, left_way, right_way = told
    words = ["unlike", str(fork), ":", names[s], names[t], "at", house[0][z], ":"]
    return text_of(words + _names(names, left_way) + ["|"] + _names(names, right_way))


def read_why(house, text):
    """What a text tells of a book."""
    made_house(house)
    reader = Reader(text)
    if reader.one_of(("plan", "ring")) == "plan":
        plan = plan_in(reader, house)
        reader.end()
        return ("plan", made_plan(book_of(house), plan))
    told = _ring_in(reader, house)
    reader.end()
    return told


def print_why(house, told):
    """The text of what is told of a book."""
    if not _why_form(book_of(house), len(house[0]), told):
        raise BadPaper(0)
    if told[0] == "plan":
        return text_of(["plan"] + plan_words(house, told[1]))
    names = source_names(house)
    links = [[names[source], house[0][column]] for source, column in zip(told[1], told[2])]
    return text_of(["ring"] + [word for link in links for word in link])


def _names(names, some):
    """The names that some indexes tell."""
    return [names[index] for index in some]


def _right_in(reader, house):
    """Reads what stands behind the word right."""
    reader.need(":")
    zs = []
    more = reader.has_name()
    while more:
        zs.append(tuple(sorted(reader.several(house[0], 1))))
        more = reader.passes("|")
    return ("right", tuple(zs))


def _apart_in(reader, house):
    """Reads what stands behind the word apart."""
    fork = reader.figures(COUNT_LIMIT)
    reader.need(":")
    return ("apart", fork, tuple(reader.several(source_names(house), LEAST_SOURCES)))


def _unlike_in(reader, house):
    """Reads what stands behind the word unlike."""
    names = source_names(house)
    fork = reader.figures(COUNT_LIMIT)
    reader.need(":")
    s = reader.named(names)
    t = reader.named(names)
    reader.need("at")
    z = reader.named(house[0])
    reader.need(":")
    left_way = tuple(reader.several(names, 1))
    reader.need("|")
    return ("unlike", fork, s, t, z, left_way, tuple(reader.several(names, 1)))


def _ring_in(reader, house):
    """Reads what stands behind the word ring."""
    sources = []
    xs = []
    while len(sources) < LEAST_SOURCES or reader.has_name():
        reader.unlike(source_names(house), sources)
        xs.append(reader.named(house[0]))
    return ("ring", tuple(sources), tuple(xs))


def _judged_form(book, many_columns, thing):
    """Whether a thing is of a form that a text tells of a plan."""
    if not isinstance(thing, tuple) or len(thing) < 2:
        return False
    if thing[0] == "right":
        zs = thing[1]
        return len(thing) == 2 and isinstance(zs, tuple) and all(rising_below(z, many_columns) for z in zs)
    many = len(book)
    if not number_below(thing[1], COUNT_LIMIT):
        return False
    if thing[0] == "apart":
        return len(thing) == 3 and unlike_below(thing[2], many) and len(thing[2]) >= LEAST_SOURCES
    if thing[0] != "unlike" or len(thing) != 7:
        return False
    _, _, s, t, z, left_way, right_way = thing
    if not number_below(s, many) or not number_below(t, many) or not number_below(z, many_columns):
        return False
    return unlike_below(left_way, many) and unlike_below(right_way, many)


def _why_form(book, many_columns, thing):
    """Whether a thing is of a form that a text tells of a book."""
    if not isinstance(thing, tuple) or len(thing) < 2:
        return False
    if thing[0] == "plan":
        return len(thing) == 2 and is_plan(book, thing[1])
    if thing[0] != "ring" or len(thing) != 3 or not unlike_below(thing[1], len(book)):
        return False
    xs = thing[2]
    if len(thing[1]) < LEAST_SOURCES or not isinstance(xs, tuple) or len(xs) != len(thing[1]):
        return False
    return all(number_below(x, many_columns) for x in xs)
