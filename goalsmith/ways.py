"""Ways: the papers by which goals that are left lead back to a goal."""

from goalsmith.errors import Fails
from goalsmith.goals import goal_of, new_names
from goalsmith.names import is_whole
from goalsmith.steps import held_by
from goalsmith.writers import Writer


def demand(holds, why):
    """Fail where something does not hold."""
    if not holds:
        raise Fails(why)


class Way:
    """A goal, the goals that are left for it so far, and the steps that lead back from these."""

    def __init__(self, ground, goal):
        self._ground = ground
        self._given, self._saying = goal
        self._goals = []
        self._steps = Writer()
        self._held = []

    def ground(self):
        """The ground of the goal."""
        return self._ground

    def given(self):
        """What is given in the goal."""
        return self._given

    def saying(self):
        """The goal's saying."""
        return self._saying

    def within(self, word):
        """What stands within the goal's saying, which must be put together by this word."""
        demand(self._saying[0] == word, "the goal has another saying")
        return self._saying[1:]

    def given_at(self, number):
        """The given saying with a number, which may be anything."""
        demand(is_whole(number) and 0 <= number < len(self._given), "there is no given saying with this number")
        return self._given[number]

    def names_for(self, things, many):
        """New names for the goal and for what a worker was made of."""
        return new_names((self._given, self._saying), things, many)

    def left(self, saying, more):
        """Leave a goal, with what is given and a list of more; the number of the step that lends it."""
        goal = goal_of(self._ground, list(self._given) + more, saying)
        self._goals.append(goal)
        return self._written(("lent", (), (len(self._goals) - 1,)), goal)

    def step(self, rule, uses, *told):
        """Write a step by a rule; its number."""
        held = held_by(self._ground, rule, [self._held[use] for use in uses], told)
        return self._written((rule, tuple(uses), told), held)

    def _written(self, step, held):
        number = self._steps.number_of(step)
        if number == len(self._held):
            self._held.append(held)
        return number

    def taken(self, saying):
        """Write that a saying holds, given itself; the step's number."""
        return self.step("take", (), saying)

    def leaned(self, number, saying, other):
        """Write a step with a saying not given any more, but what the other step, which holds it, is given."""
        supposed = self.step("so", (number,), saying)
        return self.step("use", (supposed, other))

    def ended(self, number):
        """The goals left, and the way, whose step with this number holds the goal's saying."""
        last = number
        for saying in self._given:
            if saying not in self._held[last][0]:
                last = self.step("more", (last,), saying)
        return list(self._goals), self._steps.row()
