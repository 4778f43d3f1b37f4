"""Rules of blanks: who is paired at a fork where some of the columns that both sides have are blank."""

from behindboth.books import COLUMN_LIMIT, columns
from behindboth.data import WORTH_LIMIT
from behindboth.errors import BadRule
from behindboth.values import number_below

MOST_RULE_ROWS = 20
MOST_CONDITIONS = 6
COUNT_LIMIT = 100


def made_rule(thing):
    """A thing that is a rule of blanks; BadRule if it is none."""
    if not isinstance(thing, tuple) or len(thing) > MOST_RULE_ROWS:
        raise BadRule(-1)
    for index, row in enumerate(thing):
        if not _row_form(row):
            raise BadRule(index)
    return thing


def is_rule(thing):
    """Whether a thing is a rule of blanks."""
    try:
        made_rule(thing)
    except BadRule:
        return False
    return True


def answer(rule, fork, left, right):
    """What a rule answers of two rows, told by their filled columns and the worths there."""
    made_rule(rule)
    return answer_of(rule, fork, dict(left), dict(right))


def says(book, rule, fork, z, one, two):
    """Whether a left and a right row, shown over all columns of the book, are paired at a fork."""
    places = columns(book)
    made_rule(rule)
    left = {column: worth for column, worth in zip(places, one) if worth is not None}
    right = {column: worth for column, worth in zip(places, two) if worth is not None}
    both = [column for column in left if column in right]
    if not both or any(left[column] != right[column] for column in both):
        return False
    return all(column in both for column in z) or answer_of(rule, fork, left, right)


def answer_of(rule, fork, left, right):
    """As answer, of two rows as dicts from column to worth, and a rule that is known to be right."""
    return open_answer(open_rows(rule, fork, left, right), left, right)


def open_rows(rule, fork, left, right):
    """The rows of a rule that may answer any two rows that are filled where these are, with what is to be asked yet.

    Only the worths of the two rows are to be asked yet, so one look at the rule does for all rows that are filled
    in the same columns.
    """
    rows = []
    for conditions, said in rule:
        asked = [condition for condition in conditions if condition[0] == "worth"]
        known = [condition for condition in conditions if condition[0] != "worth"]
        if all(_holds(word, k, fork, left, right) for word, k in known):
            rows.append((asked, said))
            if not asked:
                return rows
    return rows


def open_answer(rows, left, right):
    """What the rows that open_rows tells answer of two rows."""
    for asked, said in rows:
        if all(left.get(column) == worth or right.get(column) == worth for _, column, worth in asked):
            return said
    return False


def _holds(word, k, fork, left, right):
    """Whether a condition holds that looks only at the fork, and at which columns are filled."""
    if word == "fork":
        return fork == k
    if word == "least":
        return len([column for column in left if column in right]) >= k
    if word == "left":
        return k in left
    if word == "right":
        return k in right
    if word == "both":
        return k in left and k in right
    return k not in left and k not in right


def _row_form(thing):
    """Whether a thing is a row of a rule."""
    if not isinstance(thing, tuple) or len(thing) != 2 or not isinstance(thing[1], bool):
        return False
    conditions = thing[0]
    if not isinstance(conditions, tuple) or len(conditions) > MOST_CONDITIONS:
        return False
    return all(_condition_form(condition) for condition in conditions)


def _condition_form(thing):
    """Whether a thing is a condition of a rule."""
    if not isinstance(thing, tuple) or not thing:
        return False
    if thing[0] == "worth":
        return len(thing) == 3 and number_below(thing[1], COLUMN_LIMIT) and number_below(thing[2], WORTH_LIMIT)
    if thing[0] in ("fork", "least"):
        return len(thing) == 2 and number_below(thing[1], COUNT_LIMIT)
    return thing[0] in ("left", "right", "both", "none") and len(thing) == 2 and number_below(thing[1], COLUMN_LIMIT)
