"""Takings: goals that are taken on, one behind another, each with the way back from what came of it.

They are told in a list of tuples (way, many), many being how many goals came, each tuple ahead of what stands for these
goals, from the first one on; None stands for a goal that was left.
"""

from goalsmith.papers import cut
from goalsmith.writers import StepWriter


def laid_out(takings):
    """The one way back to which these takings' ways are laid together."""
    writer = StepWriter()
    left = takings.count(None)
    ends = []
    # From the last one on: what stands for a taking's goals is written ahead of it.
    for taking in reversed(takings):
        if taking is None:
            left -= 1
            ends.append(writer.number_of(("lent", (), (left,))))
        else:
            way, many = taking
            parts = [ends.pop() for _ in range(many)]
            ends.append(_written(writer, way, parts))
    # What the last step holds may have been written ahead of others already.
    return cut(writer.row()[:ends[0] + 1])


def _written(writer, way, parts):
    """Write a way, with these steps for the goals lent to it; the number of its last step."""
    numbers = []
    for rule, uses, told in way:
        if rule == "lent":
            numbers.append(parts[told[0]])
        else:
            numbers.append(writer.number_of((rule, tuple([numbers[use] for use in uses]), told)))
    return numbers[-1]


class Row:
    """Goals left in a row, and the takings by which they came of the first one."""

    def __init__(self, goal):
        self._goals = [goal]
        self._takings = [None]

    def goals_left(self):
        """The goals that are left, in order."""
        return list(self._goals)

    def take_on(self, parts):
        """Put in the place of each goal left what came of it: a tuple of takings and of the goals that these left."""
        goals = []
        takings = []
        at = 0
        for taking in self._takings:
            if taking is None:
                more, left = parts[at]
                takings.extend(more)
                goals.extend(left)
                at += 1
            else:
                takings.append(taking)
        self._goals = goals
        self._takings = takings

    def ended(self):
        """The goals that are left, and the way back from these."""
        return list(self._goals), laid_out(self._takings)


def taken_as(told):
    """What a worker told of a goal to which it was put, as takings, and the goals that these left."""
    goals, way = told
    return [(way, len(goals))] + [None for _ in goals], goals


class LastTold:
    """What a worker told last, while it is put to goals, one behind another."""

    def __init__(self, steady):
        self._steady = steady
        self._goal = None
        self._told = None

    def is_of(self, goal):
        """Whether the worker is known to tell just this of a goal, too."""
        return self._steady and self._goal == goal

    def note(self, goal, told):
        """Keep what it told of a goal instead."""
        self._goal = goal
        self._told = told

    def answer(self):
        """What it told last."""
        return self._told
