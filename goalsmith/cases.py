"""Workers by cases: a saying and its contrary, and all makers of a kind."""

from goalsmith.terms import MOST_SIGNS, is_term_to, kind_of
from goalsmith.ways import demand
from goalsmith.workers import Worker


def of_both_cases(way, case, one, other):
    """Write what two steps hold, the one given a case, the other given its contrary, with neither given."""
    saying = way.held_at(one)[1]
    contrary = way.taken(("not", saying))
    denied = way.step("deny", (way.step("clash", (one, contrary)),), case)
    number = way.leaned(other, ("not", case), denied)
    return way.step("back", (way.step("clash", (number, contrary)),), saying)


class ByCases(Worker):
    """Any saying, by another one and its contrary."""

    STEADY = True

    def __init__(self, saying):
        self._case = saying

    def work(self, ground, goal):
        """The goals that are left, and the way back from these to the goal."""
        return super().work(ground, goal)

    def turned(self, way):
        """S, A; S, not A."""
        one = way.left_with([self._case])
        other = way.left_with([("not", self._case)])
        return of_both_cases(way, self._case, one, other)


class ByMakers(Worker):
    """Any saying, by the makers of a term's kind."""

    STEADY = True

    def __init__(self, term):
        self._term = term

    def work(self, ground, goal):
        """The goals that are left, and the way back from these to the goal."""
        return super().work(ground, goal)

    def turned(self, way):
        """For each maker S, t = the maker of new names."""
        ground = way.ground()
        term = self._term
        demand(is_term_to(ground, term, MOST_SIGNS), "a term of the ground is due")
        kind = kind_of(ground, term)
        demand(not ground.is_open(kind), "a term of a told kind is due")
        cases = []
        names = []
        for f in ground.makers(kind):
            takes = ground.takes(f)
            names.append(tuple(way.names_for([term], len(takes))))
            made = ("made", f, tuple([("name", x, taken) for x, taken in zip(names[-1], takes)]))
            same = ("same", term, made)
            cases.append(way.step("so", (way.left_with([same]),), same))
        body = ("so", ("same", term, ("bound", 0)), way.saying())
        of_all = way.step("down", cases, kind, body, tuple(names))
        return way.step("use", (way.step("at", (of_all,), term), way.step("alike", (), term)))
