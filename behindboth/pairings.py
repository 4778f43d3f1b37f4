"""Plans run with any pairing whatever."""

from behindboth.data import made_data
from behindboth.errors import BadPairing
from behindboth.joining import fork_results, plan_result
from behindboth.plans import forks, made_part
from behindboth.values import number_below


def paired(book, data, plan, pairing):
    """The result of a plan, in order, if just the pairs of a pairing are paired."""
    made_data(book, data)
    made_part(book, plan)
    if not isinstance(pairing, tuple) or len(pairing) != len(forks(plan)):
        raise BadPairing(-1)

    def pairs_at(fork, left, right):
        if not _entry_form(pairing[fork], len(left), len(right)):
            raise BadPairing(fork)
        return pairing[fork]

    return plan_result(data, plan, fork_results(data, plan, pairs_at))


def _entry_form(thing, lefts, rights):
    """Whether a thing is a rising tuple of pairs of indices, below lefts and below rights."""
    if not isinstance(thing, tuple):
        return False
    last = (-1, -1)
    for pair in thing:
        if not isinstance(pair, tuple) or len(pair) != 2:
            return False
        if not number_below(pair[0], lefts) or not number_below(pair[1], rights) or pair <= last:
            return False
        last = pair
    return True
