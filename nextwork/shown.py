"""What shows that a number is at least, or at most, a bound."""

from nextwork.chains import one_step
from nextwork.numbers import numbers
from nextwork.quotients import are_fractions, compare, minus, need_fraction
from nextwork.stopping import going_on, rate
from nextwork.works import are_states, need_share, need_state, need_work, with_entry


def heights(work, share, bound):
    """The tuple of the most that going on from each state brings above the bound, at least 0."""
    need_work(work)
    need_share(share)
    need_fraction(bound)
    # Going on pays just where the number is greater than the bound.
    above = [state for state, number in enumerate(numbers(work, share)) if compare(number, bound) > 0]
    return tuple(heights_within(work, share, [pay for pay, _ in work], bound, above))


def heights_within(work, share, pays, bound, states):
    """What going on within the states brings above the bound: from each of them, and 0 for all others."""
    brought = going_on(work, share, [minus(pay, bound) for pay in pays], states)
    return [most if state in states else (0, 1) for state, most in enumerate(brought)]


def is_floor(work, share, state, bound, value):
    """True if the value is a floor of the state by the bound, otherwise False."""
    need_work(work)
    need_share(share)
    need_state(work, state)
    need_fraction(bound)
    return are_states(work, value) and compare(rate(work, share, state, value), bound) >= 0


def is_ceiling(work, share, state, bound, value):
    """True if the value is a ceiling of the state by the bound, otherwise False."""
    need_work(work)
    need_share(share)
    need_state(work, state)
    need_fraction(bound)
    if not are_heights(work, value):
        return False
    brought = [one_step(share, minus(pay, bound), moves, value) for pay, moves in work]
    if any([compare(most, own) > 0 for most, own in zip(brought, value)]):
        return False
    return compare(brought[state], (0, 1)) <= 0


def are_heights(work, value):
    """True if the value is a tuple of fractions, one for each state and none less than 0."""
    return are_fractions(value, len(work)) and all(top >= 0 for top, _ in value)


def pay_for(work, share, state, bound):
    """The pay of the state with which its number is the bound."""
    need_work(work)
    need_share(share)
    need_state(work, state)
    need_fraction(bound)
    # Where the number of the state is the bound, coming back to it brings
    # nothing above the bound. A state that brings the bound for ever is the same.
    as_bound = (bound, ((state, (1, 1)),))
    behind = heights(with_entry(work, state, as_bound), share, bound)
    _, moves = work[state]
    return minus(bound, one_step(share, (0, 1), moves, behind))
