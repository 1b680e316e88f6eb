"""The numbers of the states of a work, and the order that they give."""

from nextwork.quotients import compare, greatest, over
from nextwork.stopping import all_spent
from nextwork.works import need_share, need_state, need_work


def groups(work, share):
    """The list of tuples (number, states with it), the greatest number first."""
    found = []
    above = []
    while len(above) < len(work):
        # The greatest number of those left is reached within the states above,
        # and no rate of one of those left goes beyond it.
        rates = [over(pay, steps) for pay, steps in all_spent(work, share, above)]
        left = [state for state in range(len(work)) if state not in above]
        most = greatest([rates[state] for state in left])
        group = [state for state in left if rates[state] == most]
        found.append((most, group))
        above = above + group
    return found


def numbers(work, share):
    """The tuple of the numbers of the states."""
    need_work(work)
    need_share(share)
    found = [(0, 1)] * len(work)
    for number, states in groups(work, share):
        for state in states:
            found[state] = number
    return tuple(found)


def states_above(work, share, state):
    """The ascending tuple of the states with numbers greater than that of the state."""
    return _states_from(work, share, state, 1)


def states_not_less(work, share, state):
    """The ascending tuple of the states with numbers not less than that of the state."""
    return _states_from(work, share, state, 0)


def _states_from(work, share, state, least):
    """The states whose number, compared with that of the state, gives at least so much."""
    told = numbers(work, share)
    need_state(work, state)
    own = told[state]
    return tuple([at for at, number in enumerate(told) if compare(number, own) >= least])


def ranking(work, share):
    """The list of the ascending lists of states with equal numbers, the greatest number first."""
    need_work(work)
    need_share(share)
    return [states for _, states in groups(work, share)]
