"""A desk, at which the works of a company are gone on with, step by step."""

from nextwork.best import best_values
from nextwork.chains import one_step
from nextwork.companies import all_standings, is_number_of_work, need_company, need_standing, steps_of
from nextwork.numbers import numbers
from nextwork.quotients import greatest, is_whole, minus, need_fraction, plus, times
from nextwork.works import need_share, need_state, with_entry
from nextwork.wrongs import NoChoice, NoMark, NoMove, TooMany

MOST_STEPS = 60
MOST_MARKS = 6


class Desk:
    """A company, a share, a standing, the steps that were gone, and marks to return to."""

    def __init__(self, company, share, standing):
        need_company(company)
        need_share(share)
        need_standing(company, standing)
        self._share = share
        self._company = company
        self._standing = standing
        # Each step with the pay that it brought, as pays may be changed later.
        self._steps = ()
        self._marks = ()

    def _need_choice(self, work):
        """Raise NoChoice unless the value is the number of a work."""
        if not is_number_of_work(self._company, work):
            raise NoChoice("not the number of a work of the company")

    def go(self, work, state):
        """Go on with the work, which moves to the state; the pay that this brings."""
        self._need_choice(work)
        pay, moves = self._company[work][self._standing[work]]
        if not is_whole(state) or state not in [target for target, _ in moves]:
            raise NoMove(state)
        if len(self._steps) >= MOST_STEPS:
            raise TooMany(MOST_STEPS)
        self._standing = with_entry(self._standing, work, state)
        self._steps = self._steps + ((work, state, pay),)
        return pay

    def set_pay(self, work, state, pay):
        """Change the pay of a state of the work."""
        self._need_choice(work)
        states = self._company[work]
        need_state(states, state)
        need_fraction(pay)
        _, moves = states[state]
        changed = with_entry(states, state, (pay, moves))
        self._company = with_entry(self._company, work, changed)

    def mark(self):
        """Make a mark; its number."""
        number = len(self._marks)
        if number >= MOST_MARKS:
            raise TooMany(MOST_MARKS)
        self._marks = self._marks + ((self._company, self._standing, self._steps),)
        return number

    def back(self, number):
        """Return to the mark, which is kept; all later ones are removed."""
        if not is_whole(number) or not 0 <= number < len(self._marks):
            raise NoMark(number)
        self._company, self._standing, self._steps = self._marks[number]
        self._marks = self._marks[:number + 1]

    def company(self):
        """The company with its pays as they are now."""
        return self._company

    def standing(self):
        """The standing."""
        return self._standing

    def log(self):
        """The list of the steps (work, state)."""
        return [(work, state) for work, state, _ in self._steps]

    def earned(self):
        """The sum of the pays of the steps, each counted the share once for each step before it."""
        total = (0, 1)
        for step in reversed(self._steps):
            total = plus(step[2], times(self._share, total))
        return total

    def next_work(self):
        """The number of the work to go on with."""
        told = [numbers(work, self._share)[state] for work, state in zip(self._company, self._standing)]
        return told.index(greatest(told))

    def _best(self):
        """The dict of the best values of the standings."""
        return dict(zip(all_standings(self._company), best_values(self._company, self._share)))

    def worth_now(self):
        """The best value of the standing."""
        return self._best()[self._standing]

    def cost_of(self, work):
        """What the work costs: how much going on with it now brings less than the best value."""
        self._need_choice(work)
        best = self._best()
        pay, moves = steps_of(self._company, self._standing)[work]
        return minus(best[self._standing], one_step(self._share, pay, moves, best))

    def marks(self):
        """The ascending list of the numbers of the marks."""
        return list(range(len(self._marks)))
