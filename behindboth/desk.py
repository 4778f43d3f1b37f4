"""The desk: a house and its rows, kept by words."""

from behindboth.bare import told_back
from behindboth.counts import count, nth
from behindboth.data import shown_in
from behindboth.errors import Refused
from behindboth.housetexts import (
    book_of, made_house, print_data, print_house, read_data, read_house, rows_words, source_names,
)
from behindboth.judge import judged
from behindboth.kept import Kept
from behindboth.mends import mends
from behindboth.orders import order, stuck
from behindboth.papertexts import print_judged, print_why
from behindboth.plans import made_plan
from behindboth.plantexts import plan_in, plan_words, print_order
from behindboth.questions import answers_in
from behindboth.questiontexts import lots_text, question_in
from behindboth.rings import why
from behindboth.ruletexts import rule_in
from behindboth.running import run
from behindboth.thirds import thirds
from behindboth.words import Reader, parted, text_of


def _put(desk, reader):
    source = reader.named(source_names(desk.house))
    row = reader.worths(len(desk.book[source]))
    reader.end()
    tag = desk.kept.put(source, row)
    return f"ok {tag}"


def _take(desk, reader):
    source = reader.named(source_names(desk.house))
    tag = reader.figures()
    reader.end()
    desk.kept.take(source, tag)
    return "ok"


def _undo(desk, reader):
    reader.end()
    desk.kept.undo()
    return "ok"


def _redo(desk, reader):
    reader.end()
    desk.kept.redo()
    return "ok"


def _rows(desk, reader):
    question = question_in(reader, desk.house)
    reader.end()
    return _told_lots(desk, answers_in(desk.book, desk.kept.seen(), desk.kept.whole(), question))


def _run(desk, reader):
    plan = plan_in(reader, desk.house)
    rule = rule_in(reader, desk.house) if reader.passes("by") else ()
    reader.end()
    made_plan(desk.book, plan)
    lots = run(desk.book, desk.kept.data(), plan, rule)
    # Data tell rows by their places, the desk by the tags that it has given.
    tags = [[tag for tag, _ in desk.kept.rows(source)] for source in range(len(desk.book))]
    return _told_lots(desk, [
        tuple([None if at is None else tags[source][at] for source, at in enumerate(lot)]) for lot in lots
    ])


def _news(desk, reader):
    reader.end()
    come, gone = desk.kept.news()
    return f"came {_told_lots(desk, come)}; went {_told_lots(desk, gone)}"


def _data(desk, reader):
    reader.end()
    return print_data(desk.house, desk.kept.data()) or "none"


def _back(desk, reader):
    source = reader.named(source_names(desk.house))
    reader.end()
    rows = desk.kept.seen()
    shown_rows = tuple([shown_in(desk.book, rows, lot) for lot in desk.kept.whole()])
    return text_of(rows_words(told_back(desk.book, shown_rows, source))) or "none"


def _judge(desk, reader):
    plan = plan_in(reader, desk.house)
    reader.end()
    made_plan(desk.book, plan)
    return print_judged(desk.house, judged(desk.book, plan))


def _why(desk, reader):
    reader.end()
    return print_why(desk.house, why(desk.book))


def _order(desk, reader):
    reader.end()
    found = order(desk.book)
    if found is not None:
        return f"order {print_order(desk.house, found)}"
    return text_of(["stuck"] + _names(desk, stuck(desk.book)))


def _thirds(desk, reader):
    reader.end()
    return text_of(parted([_names(desk, third) for third in thirds(desk.book)], "|")) or "none"


def _count(desk, reader):
    reader.end()
    return str(count(desk.book))


def _nth(desk, reader):
    number = reader.figures()
    reader.end()
    return text_of(plan_words(desk.house, nth(desk.book, number)))


def _mends(desk, reader):
    reader.end()
    names = source_names(desk.house)
    pairs = [[names[source], desk.house[0][column]] for source, column in mends(desk.book)]
    return text_of(parted(pairs, "|")) or "none"


# What answers a row that begins with the word: it reads the rest of the row, and only then does or asks anything.
ANSWERS = {
    "put": _put,
    "take": _take,
    "undo": _undo,
    "redo": _redo,
    "rows": _rows,
    "run": _run,
    "news": _news,
    "data": _data,
    "back": _back,
    "judge": _judge,
    "why": _why,
    "order": _order,
    "thirds": _thirds,
    "count": _count,
    "nth": _nth,
    "mends": _mends,
}


class Desk:
    """A house, and rows of its sources, which come and go; both told by words."""

    def __init__(self, house):
        self.house = made_house(house)
        self.book = book_of(house)
        self.kept = Kept(self.book)

    def row(self, text):
        """Does or asks what a row of text tells; the answer, as a text."""
        try:
            reader = Reader(text)
            word = reader.one_of(list(ANSWERS))
            action = ANSWERS[word]
            return action(self, reader)
        except Refused as error:
            return f"refused: {error.label} {_what_text(error.what)}"

    def text(self):
        """The texts of the house, and of the rows that are kept."""
        return (print_house(self.house), print_data(self.house, self.kept.data()))


def desk_of(house, data):
    """The desk of the house that a text tells, with the rows that another one tells."""
    made = read_house(house)
    rows = read_data(made, data)
    desk = Desk(made)
    desk.kept.fill(rows)
    return desk


def _names(desk, sources):
    """The names of some sources."""
    names = source_names(desk.house)
    return [names[source] for source in sources]


def _told_lots(desk, lots):
    """The text of lots that are told by their tags."""
    rows = desk.kept.seen()
    return lots_text(desk.house, [(lot, shown_in(desk.book, rows, lot)) for lot in lots])


def _what_text(what):
    """The text of what an error tells of."""
    return " ".join([str(part) for part in what]) if isinstance(what, tuple) else str(what)
