"""Held things: what a kernel has made, each by one rule of others."""

from goalsmith.writers import Writer


class Held:
    """A saying that is held, with what is given; the kernel alone makes any."""

    def __init__(self, rule, uses, told, given, saying):
        self.rule = rule
        self.uses = uses
        self.told = told
        self._given = given
        self._saying = saying
        self._lent_and_steps = None

    def lent(self):
        """The goals that were lent to it, each once, by whose numbers its paper names them."""
        goals, _ = self._once_written()
        return list(goals)

    def given(self):
        """What is given."""
        return self._given

    def saying(self):
        """What is held."""
        return self._saying

    def paper(self):
        """Its paper, in which no two steps are the same."""
        _, steps = self._once_written()
        return list(steps)

    def _once_written(self):
        # What is held stays as it is, and its paper may be asked for again and again.
        if self._lent_and_steps is None:
            self._lent_and_steps = _written(self)
        return self._lent_and_steps


def _written(held):
    """The goals lent to a held thing, and its paper."""
    goals = Writer()
    steps = Writer()
    numbers = {}
    for one in _in_order(held):
        told = one.told
        if one.rule == "lent":
            told = (goals.number_of(told[0]),)
        numbers[one] = steps.number_of((one.rule, tuple([numbers[use] for use in one.uses]), told))
    return goals.row(), steps.row()


def _in_order(held):
    """A held thing and all on which it leans, each once, behind what it uses."""
    found = {}
    # They stand in a list: papers go down deeper than Python's own calls may.
    waiting = [held]
    while waiting:
        one = waiting[-1]
        ahead = [use for use in one.uses if use not in found]
        if ahead:
            waiting.append(ahead[0])
        else:
            found[one] = True
            waiting.pop()
    return list(found)
