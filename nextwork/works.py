"""Works, shares, and the states that a state reaches."""

from nextwork.quotients import is_fraction, is_whole, plus
from nextwork.wrongs import NoShare, NoState, NoStates, NoWork

MOST_STATES = 6


def is_share(value):
    """True if the value is a share, otherwise False."""
    if not is_fraction(value):
        return False
    top, bottom = value
    return 0 < top < bottom


def is_work(value):
    """True if the value is a work, otherwise False."""
    if not isinstance(value, tuple) or not 1 <= len(value) <= MOST_STATES:
        return False
    many = len(value)
    return all(_is_row(row, many) for row in value)


def _is_row(row, many):
    """True if the row is (pay, moves) of a work of so many states."""
    if not isinstance(row, tuple) or len(row) != 2:
        return False
    pay, moves = row
    return is_fraction(pay) and _are_moves(moves, many)


def _are_moves(moves, many):
    """True if the moves ascend, lead to states, and their chances add up to 1."""
    if not isinstance(moves, tuple):
        return False
    before = -1
    total = (0, 1)
    for move in moves:
        if not _is_move(move, before, many):
            return False
        before, chance = move
        total = plus(total, chance)
    return total == (1, 1)


def _is_move(move, before, many):
    """True if the move is (state, chance) and its state stands after the one before."""
    if not isinstance(move, tuple) or len(move) != 2:
        return False
    state, chance = move
    if not is_whole(state) or not before < state < many:
        return False
    return is_fraction(chance) and chance[0] > 0


def is_state(work, value):
    """True if the value is the number of a state of the work."""
    return is_whole(value) and 0 <= value < len(work)


def are_states(work, value):
    """True if the value is an ascending tuple of different states of the work."""
    if not isinstance(value, tuple):
        return False
    before = -1
    for state in value:
        if not is_state(work, state) or state <= before:
            return False
        before = state
    return True


def need_work(value):
    """Raise NoWork unless the value is a work."""
    if not is_work(value):
        raise NoWork("not a work")


def need_share(value):
    """Raise NoShare unless the value is a share."""
    if not is_share(value):
        raise NoShare("not a share")


def need_state(work, value):
    """Raise NoState unless the value is the number of a state of the work."""
    if not is_state(work, value):
        raise NoState("not a state of the work")


def need_states(work, value):
    """Raise NoStates unless the value is an ascending tuple of different states of the work."""
    if not are_states(work, value):
        raise NoStates("not an ascending tuple of different states of the work")


def with_entry(entries, at, entry):
    """The tuple with the entry in the place of the one that stands there."""
    return entries[:at] + (entry,) + entries[at + 1:]


def reached(work, state):
    """The ascending list of the states that the state reaches, itself too."""
    need_work(work)
    need_state(work, state)
    seen = {state}
    waiting = [state]
    while waiting:
        _, moves = work[waiting.pop()]
        for target, _ in moves:
            if target not in seen:
                seen.add(target)
                waiting.append(target)
    return sorted(seen)
