"""Questions and lots as texts."""

from behindboth.data import shown_form
from behindboth.errors import BadLots, BadText, Twice
from behindboth.groups import need_hanging
from behindboth.housetexts import book_of, made_house, source_names
from behindboth.parts import lot_form
from behindboth.questions import MOST_TESTS, made_question
from behindboth.words import Reader, parted, text_of


def read_question(house, text):
    """The question that a text tells."""
    made_house(house)
    reader = Reader(text)
    reader.need("rows")
    question = question_in(reader, house)
    reader.end()
    return question


def print_question(house, question):
    """The text of a question about the book of a house."""
    of, wants, lacks, tests = made_question(book_of(house), question)
    names = source_names(house)
    words = ["rows"]
    for word, some in (("of", of), ("with", wants), ("without", lacks)):
        if some:
            words.append(word)
            words.extend([names[source] for source in some])
    if tests:
        words.append("where")
        words.extend(parted([_test_words(house, test) for test in tests], "and"))
    return text_of(words)


def print_lots(house, lots):
    """The text of lots, each told by a pair of its tags and of what it shows."""
    book = book_of(house)
    if not isinstance(lots, tuple):
        raise BadLots(-1)
    for index, pair in enumerate(lots):
        if not isinstance(pair, tuple) or len(pair) != 2:
            raise BadLots(index)
        if not lot_form(book, pair[0]) or not shown_form(book, pair[1]):
            raise BadLots(index)
    return lots_text(house, lots)


def lots_text(house, lots):
    """As print_lots, of what is known to be right."""
    names = source_names(house)
    return text_of(parted([_lot_words(names, tags, shown) for tags, shown in lots], "|")) or "none"


def question_in(reader, house):
    """Reads what stands behind the word rows in a question."""
    of = []
    if reader.passes("of"):
        of = reader.several(source_names(house), 1)
        need_hanging(book_of(house), tuple(sorted(of)))
    wants = _sources_in(reader, house, "with", of)
    lacks = _sources_in(reader, house, "without", of)
    tests = []
    more = reader.passes("where")
    while more:
        tests.append(_test_in(reader, house))
        more = reader.more("and", len(tests), MOST_TESTS)
    return (tuple(sorted(of)), wants, lacks, tuple(tests))


def _sources_in(reader, house, word, of):
    """Reads a word, if it stands there, and the names of sources behind it, which are some of those of of, if any."""
    found = []
    more = reader.passes(word)
    while more:
        place = reader.place()
        source = reader.named(source_names(house))
        if of and source not in of:
            raise BadText(place)
        if source in found:
            raise Twice(place)
        found.append(source)
        more = reader.has_name()
    return tuple(sorted(found))


def _test_in(reader, house):
    """Reads a test."""
    column = reader.named(house[0])
    word = reader.one_of(("=", "filled", "blank"))
    return (column, "is", reader.figures()) if word == "=" else (column, word, 0)


def _test_words(house, test):
    """The words of a test."""
    column, word, worth = test
    return [house[0][column], "=", str(worth)] if word == "is" else [house[0][column], word]


def _lot_words(names, tags, shown):
    """The words of a lot."""
    words = []
    for source, tag in enumerate(tags):
        if tag is not None:
            words.extend([names[source], str(tag)])
    words.append(":")
    return words + ["-" if worth is None else str(worth) for worth in shown]
