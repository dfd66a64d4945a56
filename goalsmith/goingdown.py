"""Going down a told kind: what is so of each maker where it is so of what the maker takes."""

from goalsmith.givens import is_free_in
from goalsmith.names import is_name
from goalsmith.sayings import opened, put_in, shut
from goalsmith.ways import demand
from goalsmith.workers import Worker


class Down(Worker):
    """A saying of a name, by the makers of the name's kind; it may be held of all of some others, too."""

    STEADY = True

    def __init__(self, x, kind, others):
        self._x = x
        self._kind = kind
        self._others = list(others)

    def work(self, ground, goal):
        """The goals that are left, and the way back from these to the goal."""
        return super().work(ground, goal)

    def turned(self, way):
        """For each maker S of it, with B of each name of the kind itself given."""
        self._need_names(way)
        ground = way.ground()
        makers = ground.makers(self._kind)
        # Where no maker takes the kind itself, nothing is given of all of the others.
        needs_all = any(self._kind in ground.takes(f) for f in makers)
        others = self._others if needs_all else []
        of_all = way.saying()
        for y, kind in reversed(others):
            of_all = ("all", kind, shut(of_all, y, kind))
        body = shut(of_all, self._x, self._kind)
        names = [tuple(way.names_for(self._names(), len(ground.takes(f)))) for f in makers]
        steps = [self._step_of(way, f, xs, body, others) for f, xs in zip(makers, names)]
        number = way.step("down", steps, self._kind, body, tuple(names))
        for x, kind in [(self._x, self._kind)] + others:
            number = way.step("at", (number,), ("name", x, kind))
        return number

    def _step_of(self, way, f, xs, body, others):
        """Leave the goal of a maker of new names; the step that holds the body opened by it."""
        parts = [("name", x, kind) for x, kind in zip(xs, way.ground().takes(f))]
        more = [opened(body, part) for part in parts if part[2] == self._kind]
        number = way.left(put_in(way.saying(), self._x, self._kind, ("made", f, tuple(parts))), more)
        for y, kind in reversed(others):
            number = way.step("each", (number,), y, kind)
        return number

    def _names(self):
        return [("name", x, kind) for x, kind in [(self._x, self._kind)] + self._others]

    def _need_names(self, way):
        """All names must be such, unlike, and free in nothing that is given."""
        ground = way.ground()
        demand(ground.is_kind(self._kind) and not ground.is_open(self._kind), "a told kind is due")
        names = [(self._x, self._kind)] + self._others
        for name in names:
            demand(isinstance(name, tuple) and len(name) == 2, "a tuple of a name and its kind is due")
            x, kind = name
            demand(is_name(x) and ground.is_kind(kind), "a name and a kind of the ground are due")
            demand(not is_free_in(x, kind, way.given()), "the name is free in what is given")
        demand(len(set(names)) == len(names), "a name comes twice")
