"""Questions: which lots have some sources and not others, and show this or that."""

from behindboth.books import COLUMN_LIMIT, all_columns, made_book
from behindboth.data import WORTH_LIMIT, filled, have, in_order, made_data
from behindboth.errors import BadLots, BadQuestion
from behindboth.groups import pieces_in
from behindboth.parts import need_lots, parts_in
from behindboth.values import number_below, rising_below
from behindboth.whole import whole

MOST_TESTS = 8


def made_question(book, thing):
    """A thing that is a question about a book; BadQuestion if it is none."""
    made_book(book)
    if not isinstance(thing, tuple) or len(thing) != 4:
        raise BadQuestion(-1)
    of, wants, lacks, tests = thing
    if of != () and not (rising_below(of, len(book)) and len(pieces_in(book, of)) == 1):
        raise BadQuestion(0)
    if not _sources_form(book, of, wants):
        raise BadQuestion(1)
    if not _sources_form(book, of, lacks):
        raise BadQuestion(2)
    if not _tests_form(book, tests):
        raise BadQuestion(3)
    return thing


def ask(book, data, question):
    """The lots that keep a question, in order: of all sources, or of the group that it is asked of alone."""
    made_data(book, data)
    made_question(book, question)
    return answers_in(book, data, whole(book, data), question)


def ask_whole(book, data, lots, question):
    """The tags that keep a question, in order, out of lots or of what they tell of the group that it is asked of."""
    made_data(book, data)
    need_lots(book, lots)
    for index, tags in enumerate(lots):
        if any(tags[source] >= len(data[source]) for source in have(tags)):
            raise BadLots(index)
    made_question(book, question)
    return answers_in(book, data, lots, question)


def answers_in(book, rows, lots, question):
    """As ask_whole, of what is known to be right; rows has for each source its rows by their tags."""
    of = question[0]
    found = parts_in(book, lots, of) if of else lots
    kept = {tags: True for tags in found if _keeps(book, rows, tags, question)}
    return in_order(list(kept))


def _keeps(book, rows, tags, question):
    """Whether tags keep a question, whatever it is asked of."""
    _, wants, lacks, tests = question
    if any(tags[source] is None for source in wants) or any(tags[source] is not None for source in lacks):
        return False
    worths = filled(book, rows, tags)
    return all(_holds(worths, column, word, worth) for column, word, worth in tests)


def _holds(worths, column, word, worth):
    """Whether a test holds, worths being what is shown, by columns."""
    if word == "is":
        return worths.get(column) == worth
    return (column in worths) == (word == "filled")


def _sources_form(book, of, thing):
    """Whether a thing is a rising tuple of sources, perhaps (), of the group of if that is not ()."""
    if thing == ():
        return True
    return rising_below(thing, len(book)) and (of == () or all(source in of for source in thing))


def _tests_form(book, thing):
    """Whether a thing is a tuple of tests of columns that the book has."""
    if not isinstance(thing, tuple) or len(thing) > MOST_TESTS:
        return False
    columns = all_columns(book)
    return all(_test_form(columns, part) for part in thing)


def _test_form(columns, thing):
    """Whether a thing is a test of one of the columns."""
    if not isinstance(thing, tuple) or len(thing) != 3:
        return False
    column, word, worth = thing
    if not number_below(column, COLUMN_LIMIT) or column not in columns:
        return False
    if word == "is":
        return number_below(worth, WORTH_LIMIT)
    return word in ("filled", "blank") and number_below(worth, 1)
