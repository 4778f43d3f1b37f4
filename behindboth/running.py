"""Plans run under a rule of blanks."""

from behindboth.data import filled, made_data
from behindboth.errors import TooMany
from behindboth.forks import meet_in
from behindboth.joining import MOST_RESULTS, fork_results, plan_result
from behindboth.plans import forks, made_part
from behindboth.rules import made_rule, open_answer, open_rows


def run(book, data, plan, rule):
    """The result of a plan under a rule, in order."""
    return plan_result(data, plan, stages(book, data, plan, rule))


def stages(book, data, plan, rule):
    """The results of all forks of a plan under a rule, in the order of forks, each in order."""
    made_data(book, data)
    made_part(book, plan)
    made_rule(rule)
    sides = forks(plan)

    def pairs_at(fork, left, right):
        return pairs_under(book, data, rule, fork, sides[fork], (left, right))

    return fork_results(data, plan, pairs_at)


def pairs_under(book, data, rule, fork, sides, results):
    """Which rows are paired at a fork under a rule: pairs of indices of the results of its sides."""
    z = meet_in(book, sides[0], sides[1])
    lefts = [filled(book, data, tags) for tags in results[0]]
    rights = [filled(book, data, tags) for tags in results[1]]
    return _pairs(rule, fork, z, lefts, rights)


def _pairs(rule, fork, z, lefts, rights):
    """Which rows are paired at a fork: pairs of indices. The rows are dicts from column to worth."""
    pairs = []
    blocks = _alike_filled(rights)
    for left in _alike_filled(lefts):
        for right in blocks:
            _put_pairs(rule, fork, z, (lefts, left), (rights, right), pairs)
    return pairs


def _alike_filled(rows):
    """The indices of rows, those of rows that are filled in the same columns together."""
    blocks = {}
    for index, row in enumerate(rows):
        blocks.setdefault(tuple(sorted(row)), []).append(index)
    return list(blocks.values())


def _put_pairs(rule, fork, z, left, right, pairs):
    """Puts the pairs of left and right rows to those there are; each side's rows, all, and the indices of a block.

    Rows of a block are filled in the same columns. So what both sides are filled in, and what the rule has to be
    asked yet, is looked at once for all of them, and only rows with equal worths there are brought together.
    """
    lefts, left_block = left
    rights, right_block = right
    one = lefts[left_block[0]]
    two = rights[right_block[0]]
    both = [column for column in one if column in two]
    if not both:
        return
    sure = all(column in both for column in z)
    rows = [] if sure else open_rows(rule, fork, one, two)
    if not sure and not any(said for _, said in rows):
        return
    alike = _by_worths(rights, right_block, both)
    for i in left_block:
        row = lefts[i]
        for j in alike.get(tuple([row[column] for column in both]), []):
            if sure or open_answer(rows, row, rights[j]):
                pairs.append((i, j))
        # More pairs than a result may have rows are not gathered.
        if len(pairs) > MOST_RESULTS:
            raise TooMany(MOST_RESULTS)


def _by_worths(rows, block, some):
    """The indices of a block by the worths that their rows have at some columns."""
    alike = {}
    for index in block:
        row = rows[index]
        alike.setdefault(tuple([row[column] for column in some]), []).append(index)
    return alike
