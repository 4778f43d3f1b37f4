"""Results put together at the forks of a plan, whoever tells which rows are paired there."""

from behindboth.data import in_order
from behindboth.errors import TooMany

MOST_RESULTS = 3000


def fork_results(data, plan, pairs_at):
    """The results of all forks of a plan, in the order of forks, each in order.

    pairs_at(fork, left, right) tells which rows are paired at the fork of this number, left and right being the
    results of its sides: pairs (i, j) of indices there, each once.
    """
    found = []
    _put_results(data, plan, pairs_at, found)
    return tuple(found)


def plan_result(data, plan, stages):
    """The result of a plan, the stages being those of its forks."""
    return stages[-1] if stages else rows_alone(data, plan)


def _put_results(data, plan, pairs_at, found):
    """Puts the results of the forks of a plan to those that are found; the result of the plan."""
    if not isinstance(plan, tuple):
        return rows_alone(data, plan)
    left = _put_results(data, plan[0], pairs_at, found)
    right = _put_results(data, plan[1], pairs_at, found)
    result = merged(left, right, pairs_at(len(found), left, right))
    found.append(result)
    return result


def rows_alone(data, source):
    """The result of a source: its rows, each with its tag alone."""
    ahead = (None,) * source
    behind = (None,) * (len(data) - source - 1)
    return tuple([ahead + (tag,) + behind for tag in range(len(data[source]))])


def merged(left, right, pairs):
    """The result of a fork: a row for each pair, and the rows that are in none."""
    lefts = {i: True for i, _ in pairs}
    rights = {j: True for _, j in pairs}
    if len(pairs) + len(left) - len(lefts) + len(right) - len(rights) > MOST_RESULTS:
        raise TooMany(MOST_RESULTS)
    rows = [_both(left[i], right[j]) for i, j in pairs]
    rows.extend([tags for i, tags in enumerate(left) if i not in lefts])
    rows.extend([tags for j, tags in enumerate(right) if j not in rights])
    return in_order(rows)


def _both(one, two):
    """The tags of two rows that have no source in common."""
    return tuple([other if tag is None else tag for tag, other in zip(one, two)])
