"""Rules of blanks as texts."""

from behindboth.errors import BadRule
from behindboth.housetexts import made_house
from behindboth.rules import COUNT_LIMIT, MOST_CONDITIONS, MOST_RULE_ROWS, made_rule
from behindboth.words import Reader, parted, text_of

COUNT_WORDS = ("fork", "least")
COLUMN_WORDS = ("left", "right", "both", "none", "worth")


def read_rule(house, text):
    """The rule that a text tells."""
    made_house(house)
    reader = Reader(text)
    rule = rule_in(reader, house)
    reader.end()
    return rule


def print_rule(house, rule):
    """The text of a rule with columns of a house."""
    made_house(house)
    made_rule(rule)
    for index, (conditions, _) in enumerate(rule):
        columns = [condition[1] for condition in conditions if condition[0] in COLUMN_WORDS]
        if any(column >= len(house[0]) for column in columns):
            raise BadRule(index)
    return text_of(parted([_row_words(house, conditions, said) for conditions, said in rule], ";"))


def rule_in(reader, house):
    """Reads a rule, which may be the end of the text."""
    rows = []
    more = reader.word() != ""
    while more:
        rows.append(_row_in(reader, house))
        more = reader.more(";", len(rows), MOST_RULE_ROWS)
    return tuple(rows)


def _row_in(reader, house):
    """Reads a row of a rule."""
    said = reader.one_of(("yes", "no")) == "yes"
    conditions = []
    more = reader.passes("if")
    while more:
        conditions.append(_condition_in(reader, house))
        more = reader.more("and", len(conditions), MOST_CONDITIONS)
    return (tuple(conditions), said)


def _condition_in(reader, house):
    """Reads a condition."""
    word = reader.one_of(COUNT_WORDS + COLUMN_WORDS)
    if word in COUNT_WORDS:
        return (word, reader.figures(COUNT_LIMIT))
    column = reader.named(house[0])
    return (word, column, reader.figures()) if word == "worth" else (word, column)


def _row_words(house, conditions, said):
    """The words of a row of a rule."""
    words = ["yes" if said else "no"]
    if conditions:
        words.append("if")
        words.extend(parted([_condition_words(house, condition) for condition in conditions], "and"))
    return words


def _condition_words(house, condition):
    """The words of a condition."""
    word, told_by = condition[:2]
    words = [word, str(told_by) if word in COUNT_WORDS else house[0][told_by]]
    return words + [str(worth) for worth in condition[2:]]
