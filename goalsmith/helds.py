"""Held things: what a kernel has made, each by one rule of others."""

from goalsmith.writers import GoalWriter, StepWriter


class Held:
    """A saying that is held, with what is given; the kernel alone makes any."""

    def __init__(self, rule, uses, told, given, saying):
        self.rule = rule
        self.uses = uses
        self.told = told
        self._given = given
        self._saying = saying
        self._whole = None

    def lent(self):
        """The goals that were lent to it, each once, by whose numbers its paper names them."""
        goals, _, _ = self._once_written()
        return list(goals)

    def given(self):
        """What is given."""
        return self._given

    def saying(self):
        """What is held."""
        return self._saying

    def paper(self):
        """Its paper, in which no two steps are the same."""
        _, steps, _ = self._once_written()
        return list(steps)

    def held_by_steps(self):
        """For each step of its paper what is given there, and what it holds."""
        _, _, held = self._once_written()
        return list(held)

    def _once_written(self):
        # What is held stays as it is, and its paper may be asked for again and again.
        if self._whole is None:
            self._whole = _whole_of(self)
        return self._whole


def _whole_of(held):
    """The goals lent to a held thing, its paper, and what each step of this holds."""
    goals = GoalWriter()
    steps = StepWriter()
    numbers = {}
    held_by_steps = []
    for one in _in_order(held):
        told = one.told
        if one.rule == "lent":
            told = (goals.number_of(told[0]),)
        numbers[one] = steps.number_of((one.rule, tuple([numbers[use] for use in one.uses]), told))
        if numbers[one] == len(held_by_steps):
            held_by_steps.append((one.given(), one.saying()))
    return goals.row(), steps.row(), held_by_steps


def _in_order(held):
    """A held thing and all on which it leans, each once, behind what it uses."""
    found = {}
    # They stand in a list: papers go down deeper than Python's own calls may.
    waiting = [held]
    while waiting:
        one = waiting[-1]
        ahead = [use for use in one.uses if use not in found]
        if ahead:
            waiting.append(ahead[0])
        else:
            found[one] = True
            waiting.pop()
    return list(found)
