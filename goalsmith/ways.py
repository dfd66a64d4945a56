"""Ways: the papers by which goals that are left lead back to a goal."""

from goalsmith.errors import Fails
from goalsmith.givens import need, parts_of, together
from goalsmith.goals import goal_with, need_sayings, new_names
from goalsmith.names import is_whole
from goalsmith.papers import cut
from goalsmith.steps import held_by, need_room
from goalsmith.terms import kind_of
from goalsmith.writers import StepWriter


def demand(holds, why):
    """Fail where something does not hold."""
    if not holds:
        raise Fails(why)


class Way:
    """A goal, the goals that are left for it so far, and the steps that lead back from these."""

    def __init__(self, ground, goal):
        self._ground = ground
        self._given, self._saying = goal
        self._goals = []
        self._steps = StepWriter()
        self._held = []
        # A held thing may be needed again and again, and its paper be long.
        self._embedded = {}

    def ground(self):
        """The ground of the goal."""
        return self._ground

    def given(self):
        """What is given in the goal."""
        return self._given

    def saying(self):
        """The goal's saying."""
        return self._saying

    def within(self, word):
        """What stands within the goal's saying, which must be put together by this word."""
        demand(self._saying[0] == word, "the goal has another saying")
        return self._saying[1:]

    def given_at(self, number):
        """The given saying with a number, which may be anything."""
        demand(is_whole(number) and 0 <= number < len(self._given), "there is no given saying with this number")
        return self._given[number]

    def names_for(self, things, many):
        """New names for the goal and for what a worker was made of."""
        return new_names((self._given, self._saying), things, many)

    def left(self, saying, more):
        """Leave a goal, with what is given and a list of more; the number of the step that lends it."""
        need_sayings(self._ground, [saying])
        return self._lent(saying, more)

    def left_with(self, more):
        """Leave the goal's saying, with what is given and a list of more; the number of the step that lends it."""
        return self._lent(self._saying, more)

    def _lent(self, saying, more):
        # What is given in the goal, and its saying, may stand in a goal; so only what is new is looked through.
        need_sayings(self._ground, more)
        goal = goal_with(list(self._given) + more, saying)
        self._goals.append(goal)
        return self._written(("lent", (), (len(self._goals) - 1,)), goal)

    def step(self, rule, uses, *told):
        """Write a step by a rule; its number."""
        held = held_by(self._ground, rule, [self._held[use] for use in uses], told)
        return self._written((rule, tuple(uses), told), held)

    def _written(self, step, held):
        number = self._steps.number_of(step)
        if number == len(self._held):
            self._held.append(held)
        return number

    def held_at(self, number):
        """What is given at the step with this number, and what it holds."""
        return self._held[number]

    def taken(self, saying):
        """Write that a saying holds, given itself; the step's number."""
        return self.step("take", (), saying)

    def leaned(self, number, saying, other):
        """Write a step with a saying not given any more, but what the other step, which holds it, is given."""
        supposed = self.step("so", (number,), saying)
        return self.step("use", (supposed, other))

    def turned_round(self, number):
        """Write that t = s, of a step that holds s = t."""
        _, one, other = self._held[number][1]
        alike = self.step("alike", (), one)
        return self.put_known(number, alike, ("same", ("bound", 0), one), ("same", other, one))

    def put_known(self, same, number, body, saying):
        """Write a step by put, of which is known that it holds the saying: what leads to it is not looked through."""
        given, (_, one, _) = self._held[same]
        given = together(given, self._held[number][0])
        need_room(given, saying)
        step = ("put", (same, number), (kind_of(self._ground, one), body))
        return self._written(step, (given, saying))

    def embedded(self, held):
        """Write the paper of a held thing, to which nothing is lent; the number of its last step."""
        if held in self._embedded:
            return self._embedded[held]
        numbers = []
        for rule, uses, told in held.paper():
            numbers.append(self.step(rule, [numbers[use] for use in uses], *told))
        # It was held of its own ground, which may be another one.
        need(self._held[numbers[-1]] == (held.given(), held.saying()), "this is held of another ground")
        self._embedded[held] = numbers[-1]
        return numbers[-1]

    def opened_by(self, number, terms):
        """Write what a step holds with its alls opened by these terms, the outermost first; the last step's number.

        All but the last are opened by new names at first, so that no term comes to stand deep within alls.
        """
        if not terms:
            return number
        last = number
        names = []
        for x in new_names(self._held[number], terms, len(terms) - 1):
            kind, _ = parts_of(self._held[last][1], "all")
            names.append((x, kind))
            last = self.step("at", (last,), ("name", x, kind))
        last = self.step("at", (last,), terms[-1])
        for (x, kind), term in zip(names, terms):
            last = self.step("at", (self.step("each", (last,), x, kind),), term)
        return last

    def ended(self, number):
        """The goals left, and the way, whose step with this number holds the goal's saying."""
        last = number
        for saying in self._given:
            if saying not in self._held[last][0]:
                last = self.step("more", (last,), saying)
        return list(self._goals), cut(self._steps.row()[:last + 1])
