"""Going on with a work for a time: what it brings, and in how many steps."""

from nextwork.chains import sums
from nextwork.quotients import over
from nextwork.works import need_share, need_state, need_states, need_work


def going_on(work, share, brought, states):
    """For each state the mean sum of what the states bring, going on from it within the states."""
    moves = [[move for move in row if move[0] in states] for _, row in work]
    return sums(share, brought, moves)


def all_spent(work, share, states):
    """For each state the tuple (pay, steps) of going on from it within the states."""
    pays = going_on(work, share, [pay for pay, _ in work], states)
    steps = going_on(work, share, [(1, 1)] * len(work), states)
    return list(zip(pays, steps))


def spent(work, share, state, states):
    """The tuple (pay, steps) of going on from the state within the states."""
    need_work(work)
    need_share(share)
    need_state(work, state)
    need_states(work, states)
    return all_spent(work, share, states)[state]


def rate(work, share, state, states):
    """The pay of going on from the state within the states, divided by the steps."""
    pay, steps = spent(work, share, state, states)
    return over(pay, steps)
