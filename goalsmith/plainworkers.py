"""The plain workers: each goes back by one rule, or by one given saying."""

from goalsmith.making import is_by_maker
from goalsmith.sayings import is_body, opened
from goalsmith.ways import demand
from goalsmith.workers import Worker


class Given(Worker):
    """What is given."""

    STEADY = True

    def work(self, ground, goal):
        """The goals that are left, and the way back from these to the goal."""
        return super().work(ground, goal)

    def turned(self, way):
        """No goals."""
        demand(way.saying() in way.given(), "the goal's saying is not given")
        return way.taken(way.saying())


class Alike(Worker):
    """t = t."""

    STEADY = True

    def work(self, ground, goal):
        """The goals that are left, and the way back from these to the goal."""
        return super().work(ground, goal)

    def turned(self, way):
        """No goals."""
        one, other = way.within("same")
        demand(one == other, "the sides are not the same term")
        return way.step("alike", (), one)


class Both(Worker):
    """A and B."""

    STEADY = True

    def work(self, ground, goal):
        """The goals that are left, and the way back from these to the goal."""
        return super().work(ground, goal)

    def turned(self, way):
        """A; B."""
        one, other = way.within("and")
        return way.step("both", (way.left(one, []), way.left(other, [])))


class First(Worker):
    """A or B."""

    STEADY = True

    def work(self, ground, goal):
        """The goals that are left, and the way back from these to the goal."""
        return super().work(ground, goal)

    def turned(self, way):
        """A."""
        one, other = way.within("or")
        return way.step("first", (way.left(one, []),), other)


class Second(Worker):
    """A or B."""

    STEADY = True

    def work(self, ground, goal):
        """The goals that are left, and the way back from these to the goal."""
        return super().work(ground, goal)

    def turned(self, way):
        """B."""
        one, other = way.within("or")
        return way.step("second", (way.left(other, []),), one)


class Suppose(Worker):
    """A so B, or not A."""

    STEADY = True

    def work(self, ground, goal):
        """The goals that are left, and the way back from these to the goal."""
        return super().work(ground, goal)

    def turned(self, way):
        """B, A; or no, A."""
        if way.saying()[0] == "not":
            denied = way.within("not")[0]
            return way.step("deny", (way.left(("no",), [denied]),), denied)
        supposed, saying = way.within("so")
        return way.step("so", (way.left(saying, [supposed]),), supposed)


class Fix(Worker):
    """All."""

    STEADY = True

    def work(self, ground, goal):
        """The goals that are left, and the way back from these to the goal."""
        return super().work(ground, goal)

    def turned(self, way):
        """The body opened by a new name."""
        kind, body = way.within("all")
        x = way.names_for([], 1)[0]
        return way.step("each", (way.left(opened(body, ("name", x, kind)), []),), x, kind)


class Show(Worker):
    """Some."""

    STEADY = True

    def __init__(self, term):
        self._term = term

    def work(self, ground, goal):
        """The goals that are left, and the way back from these to the goal."""
        return super().work(ground, goal)

    def turned(self, way):
        """The body opened by the term."""
        kind, body = way.within("some")
        # What is no term of the kind makes no goal, or else no step.
        number = way.left(opened(body, self._term), [])
        return way.step("there", (number,), kind, body, self._term)


class Cut(Worker):
    """Any saying, by way of another one."""

    STEADY = True

    def __init__(self, saying):
        self._between = saying

    def work(self, ground, goal):
        """The goals that are left, and the way back from these to the goal."""
        return super().work(ground, goal)

    def turned(self, way):
        """A; S, A."""
        number = way.left(self._between, [])
        return way.leaned(way.left_with([self._between]), self._between, number)


class Contrary(Worker):
    """Any saying, by the contrary."""

    STEADY = True

    def work(self, ground, goal):
        """The goals that are left, and the way back from these to the goal."""
        return super().work(ground, goal)

    def turned(self, way):
        """No, not S."""
        return way.step("back", (way.left(("no",), [("not", way.saying())]),), way.saying())


class Absurd(Worker):
    """Any saying, of no."""

    STEADY = True

    def work(self, ground, goal):
        """The goals that are left, and the way back from these to the goal."""
        return super().work(ground, goal)

    def turned(self, way):
        """No."""
        return way.step("any", (way.left(("no",), []),), way.saying())


class Apart(Worker):
    """Any saying, by what a given one is put together of."""

    STEADY = True

    def __init__(self, number):
        self._number = number

    def work(self, ground, goal):
        """The goals that are left, and the way back from these to the goal."""
        return super().work(ground, goal)

    def turned(self, way):
        """What comes is told by the given saying's word."""
        saying = way.given_at(self._number)
        word = saying[0]
        demand(word in APART, "this given saying is not taken apart")
        act = APART[word]
        return act(way, saying)


def _apart_no(way, saying):
    return way.step("any", (way.taken(saying),), way.saying())


def _apart_not(way, saying):
    way.within("no")
    number = way.left(saying[1], [])
    return way.step("clash", (number, way.taken(saying)))


def _apart_and(way, saying):
    _, one, other = saying
    number = way.left_with([one, other])
    taken = way.taken(saying)
    number = way.leaned(number, one, way.step("left", (taken,)))
    return way.leaned(number, other, way.step("right", (taken,)))


def _apart_or(way, saying):
    _, one, other = saying
    cases = (way.left_with([one]), way.left_with([other]))
    return way.step("either", (way.taken(saying),) + cases)


def _apart_so(way, saying):
    _, supposed, held = saying
    one = way.left(supposed, [])
    other = way.left_with([held])
    return way.leaned(other, held, way.step("use", (way.taken(saying), one)))


def _apart_some(way, saying):
    _, kind, body = saying
    x = way.names_for([], 1)[0]
    number = way.left_with([opened(body, ("name", x, kind))])
    return way.step("name", (way.taken(saying), number), x)


def _apart_same(way, saying):
    _, one, other = saying
    demand(is_by_maker(way.ground(), one) and is_by_maker(way.ground(), other), "both sides are made by makers")
    taken = way.taken(saying)
    if one[1] != other[1]:
        return way.step("unlike", (taken,), way.saying())
    parts = [("same", part, mate) for part, mate in zip(one[2], other[2])]
    demand(parts, "the maker takes nothing")
    number = way.left_with(parts)
    for place, part in enumerate(parts):
        number = way.leaned(number, part, way.step("part", (taken,), place))
    return number


APART = {
    "no": _apart_no,
    "not": _apart_not,
    "and": _apart_and,
    "or": _apart_or,
    "so": _apart_so,
    "some": _apart_some,
    "same": _apart_same,
}


class At(Worker):
    """Any saying, by a given one of all."""

    STEADY = True

    def __init__(self, number, term):
        self._number = number
        self._term = term

    def work(self, ground, goal):
        """The goals that are left, and the way back from these to the goal."""
        return super().work(ground, goal)

    def turned(self, way):
        """S, the body opened by the term."""
        saying = way.given_at(self._number)
        demand(saying[0] == "all", "this given saying is not of all")
        _, kind, body = saying
        held = opened(body, self._term)
        number = way.left_with([held])
        return way.leaned(number, held, way.step("at", (way.taken(saying),), self._term))


class Put(Worker):
    """A body opened by t, where s = t is given."""

    STEADY = True

    def __init__(self, number, kind, body):
        self._number = number
        self._kind = kind
        self._body = body

    def work(self, ground, goal):
        """The goals that are left, and the way back from these to the goal."""
        return super().work(ground, goal)

    def turned(self, way):
        """The body opened by s."""
        saying = way.given_at(self._number)
        demand(saying[0] == "same", "this given saying is not of a same")
        _, one, other = saying
        demand(is_body(way.ground(), self._kind, self._body), "a kind and a body of it are due")
        demand(opened(self._body, other) == way.saying(), "the goal's saying is not the body opened by the second side")
        number = way.left(opened(self._body, one), [])
        return way.step("put", (way.taken(saying), number), self._kind, self._body)
