"""The cost of plans, and cheapest ones."""

from behindboth.data import made_data
from behindboth.groups import everyone, need_few, need_joined
from behindboth.joining import merged, rows_alone
from behindboth.planner import plan_or_ring
from behindboth.plans import made_plan
from behindboth.running import pairs_under, stages
from behindboth.splits import splits_in


def cost(book, data, plan, rule):
    """How many rows all stages of a plan have together."""
    need_joined(book)
    made_data(book, data)
    made_plan(book, plan)
    return sum([len(stage) for stage in stages(book, data, plan, rule)])


def cheapest(book, data):
    """A right plan of least cost, None if there is no right plan."""
    need_joined(book)
    made_data(book, data)
    need_few(book)
    if plan_or_ring(book)[0] == "ring":
        return None
    return _cheapest_in(book, data, everyone(book), {})[1]


def _cheapest_in(book, data, group, known):
    """The cost of a cheapest right plan of a group, this plan, and its result; known has what was found before.

    All right plans of a group have the same result, so it is made by one of them.
    """
    if len(group) == 1:
        return (0, group[0], rows_alone(data, group[0]))
    if group not in known:
        found = []
        for left, right in splits_in(book, group):
            one = _cheapest_in(book, data, left, known)
            two = _cheapest_in(book, data, right, known)
            found.append((one[0] + two[0], (one[1], two[1]), (left, right), (one[2], two[2])))
        least, plan, sides, results = min(found, key=lambda row: row[0])
        result = merged(results[0], results[1], pairs_under(book, data, (), 0, sides, results))
        known[group] = (least + len(result), plan, result)
    return known[group]
