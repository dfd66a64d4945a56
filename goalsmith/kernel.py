"""The kernel: it alone makes held things, each by one rule of others that it made."""

from goalsmith.givens import need
from goalsmith.goals import is_goal
from goalsmith.helds import Held
from goalsmith.papers import laid_in
from goalsmith.steps import held_by, lent_goal, need_step


class Kernel:
    """Makes held things of a ground; what is no step by a rule is refused with NoRule."""

    def __init__(self, ground):
        self._ground = ground
        # What each held thing that was made holds: nothing else is asked of what is handed in as held.
        self._made = {}

    def ground(self):
        """The ground of all that is held."""
        return self._ground

    def _held_in(self, thing):
        need(isinstance(thing, Held) and thing in self._made, "this kernel did not make this")
        return self._made[thing]

    def _by(self, rule, helds, told):
        used = [self._held_in(held) for held in helds]
        given, saying = held_by(self._ground, rule, used, told)
        return self._kept(Held(rule, tuple(helds), told, given, saying))

    def _kept(self, held):
        self._made[held] = (held.given(), held.saying())
        return held

    def by_lent(self, goal):
        """A goal, lent."""
        need(is_goal(self._ground, goal), "a goal of the ground is lent")
        return self._lent(goal)

    def _lent(self, goal):
        given, saying = goal
        return self._kept(Held("lent", (), (goal,), given, saying))

    def by_take(self, saying):
        """A, given A."""
        return self._by("take", [], (saying,))

    def by_more(self, held, saying):
        """What is held, with A given, too."""
        return self._by("more", [held], (saying,))

    def by_both(self, one, other):
        """A and B."""
        return self._by("both", [one, other], ())

    def by_left(self, held):
        """A, of A and B."""
        return self._by("left", [held], ())

    def by_right(self, held):
        """B, of A and B."""
        return self._by("right", [held], ())

    def by_first(self, held, saying):
        """What is held, or B."""
        return self._by("first", [held], (saying,))

    def by_second(self, held, saying):
        """B, or what is held."""
        return self._by("second", [held], (saying,))

    def by_either(self, choice, one, other):
        """C, of A or B, and C in both cases."""
        return self._by("either", [choice, one, other], ())

    def by_so(self, held, saying):
        """A so what is held."""
        return self._by("so", [held], (saying,))

    def by_use(self, held, other):
        """B, of A so B, and A."""
        return self._by("use", [held, other], ())

    def by_clash(self, one, other):
        """No, of A, and not A."""
        return self._by("clash", [one, other], ())

    def by_deny(self, held, saying):
        """Not A, of no."""
        return self._by("deny", [held], (saying,))

    def by_any(self, held, saying):
        """C, of no."""
        return self._by("any", [held], (saying,))

    def by_back(self, held, saying):
        """A, of no, where not A may be given."""
        return self._by("back", [held], (saying,))

    def by_each(self, held, x, kind):
        """All, of a saying shut by a name."""
        return self._by("each", [held], (x, kind))

    def by_at(self, held, term):
        """What is said of all, of a term."""
        return self._by("at", [held], (term,))

    def by_there(self, held, kind, body, term):
        """Some, of what is held of a term."""
        return self._by("there", [held], (kind, body, term))

    def by_name(self, held, other, x):
        """C, of some, and C given it of a name."""
        return self._by("name", [held, other], (x,))

    def by_alike(self, term):
        """t = t."""
        return self._by("alike", [], (term,))

    def by_put(self, same, held, kind, body):
        """What is held, with t for s, of s = t."""
        return self._by("put", [same, held], (kind, body))

    def by_equation(self, term):
        """A term is its right."""
        return self._by("equation", [], (term,))

    def by_unlike(self, held, saying):
        """C, of s = t, made by unlike makers."""
        return self._by("unlike", [held], (saying,))

    def by_part(self, held, place):
        """The parts at a place are the same, of s = t, made by one maker."""
        return self._by("part", [held], (place,))

    def by_down(self, helds, kind, body, names):
        """All, of what is held of each maker."""
        need(isinstance(helds, list), "a list of held things is due")
        return self._by("down", helds, (kind, body, names))

    def by_paper(self, paper, lent):
        """What the last step of a paper holds, with those goals lent on which that step leans."""
        need(isinstance(paper, list) and len(paper) > 0, "a paper has a step")
        helds = []
        for step in paper:
            need_step(step, len(helds))
            rule, uses, told = step
            if rule == "lent":
                helds.append(self._lent(lent_goal(self._ground, lent, told)))
            else:
                helds.append(self._by(rule, [helds[use] for use in uses], told))
        return helds[-1]

    def laid(self, held, helds):
        """What is held, with the held things of the goals lent to it in the place of these."""
        self._held_in(held)
        need(isinstance(helds, list), "a list of held things is due")
        need([self._held_in(one) for one in helds] == held.lent(), "there is a held thing of just each goal lent")
        lent = []
        for one in helds:
            lent.extend(one.lent())
        return self.by_paper(laid_in(held.paper(), [(one.paper(), len(one.lent())) for one in helds]), lent)
