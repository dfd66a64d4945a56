"""Joined workers: made of other workers, and put to a goal as one.

Each puts its parts to goals straight, by few calls: fifty of them may stand one within another.
"""

from goalsmith.errors import Fails
from goalsmith.takings import LastTold, Row, taken_as
from goalsmith.ways import demand
from goalsmith.workers import Worker, are_steady, need_goal


class Then(Worker):
    """One worker, then the other on each goal left."""

    def __init__(self, one, other):
        self._one = one
        self._other = other
        self.has_again = _have_again([one, other])
        self._steady = are_steady([one, other])

    def work(self, ground, goal):
        """What the other leaves of each goal."""
        need_goal(ground, goal)
        # A row joined from the left may be long: each of it is put to the goals in turn, none within another.
        workers = []
        first = self
        while isinstance(first, Then):
            workers.append(first._other)
            first = first._one
        row = Row(goal)
        for worker in [first] + workers[::-1]:
            last = LastTold(self._steady)
            parts = []
            for one in row.goals_left():
                if not last.is_of(one):
                    last.note(one, worker.work(ground, one))
                parts.append(taken_as(last.answer()))
            row.take_on(parts)
        return row.ended()

    def is_steady(self):
        """Whether all that it is made of is steady."""
        return self._steady


class Else(Worker):
    """One worker; where it fails, the other."""

    def __init__(self, one, other):
        self._one = one
        self._other = other
        self.has_again = _have_again([one, other])
        self._steady = are_steady([one, other])

    def work(self, ground, goal):
        """What the first one leaves that doesn't fail."""
        need_goal(ground, goal)
        # A row joined from the left may be long, as above.
        workers = []
        last = self
        while isinstance(last, Else):
            workers.append(last._other)
            last = last._one
        row = [last] + workers[::-1]
        for worker in row[:-1]:
            try:
                return worker.work(ground, goal)
            except Fails:
                continue
        return row[-1].work(ground, goal)

    def is_steady(self):
        """Whether all that it is made of is steady."""
        return self._steady


class Try(Worker):
    """One worker; where it fails, the goal itself is left."""

    def __init__(self, one):
        self._one = one
        self.has_again = _have_again([one])
        self._steady = are_steady([one])

    def work(self, ground, goal):
        """What the one leaves, or the goal."""
        need_goal(ground, goal)
        try:
            return self._one.work(ground, goal)
        except Fails:
            return Row(goal).ended()

    def is_steady(self):
        """Whether all that it is made of is steady."""
        return self._steady


class Each(Worker):
    """One worker, then on each goal left a worker of its own."""

    def __init__(self, one, workers):
        self._one = one
        self._workers = list(workers)
        self.has_again = _have_again([one] + self._workers)
        self._steady = are_steady([one] + self._workers)

    def work(self, ground, goal):
        """What its own worker leaves of each goal."""
        need_goal(ground, goal)
        row = Row(goal)
        row.take_on([taken_as(self._one.work(ground, goal))])
        goals = row.goals_left()
        demand(len(goals) == len(self._workers), "there is a worker for just each goal left")
        parts = []
        for worker, one in zip(self._workers, goals):
            parts.append(taken_as(worker.work(ground, one)))
        row.take_on(parts)
        return row.ended()

    def is_steady(self):
        """Whether all that it is made of is steady."""
        return self._steady


class Again(Worker):
    """One worker, and again on each goal left, as long as it doesn't fail, and at most so many times in all."""

    def __init__(self, one, most):
        self._one = one
        self._most = most
        self.has_again = True
        self._steady = are_steady([one])

    def work(self, ground, goal):
        """What is left where the one fails, or has been put often enough."""
        need_goal(ground, goal)
        row = Row(goal)
        ahead = 0
        for again in self._from_the_innermost():
            times = Times(ground, again._one, again._most - ahead)
            parts = []
            for one in row.goals_left():
                parts.append(times.taken(one))
            row.take_on(parts)
            if times.is_still():
                break
            # The one within has been put once.
            ahead = 1
        return row.ended()

    def is_steady(self):
        """Whether all that it is made of is steady."""
        return self._steady

    def _from_the_innermost(self):
        """Those that stand straight one within another, this one last; each goes on where that within it ended."""
        found = []
        last = self
        while isinstance(last, Again) and last._most > 0:
            found.append(last)
            last = last._one
        return found[::-1]


class Times:
    """How many times a worker may be put yet, where it doesn't fail."""

    def __init__(self, ground, worker, most):
        self._ground = ground
        self._worker = worker
        self._left = most
        self._still = False
        steady = are_steady([worker])
        # Where one within another would do nothing again and again, it would take for ever.
        self._skips = steady or _have_again([worker])
        # Often the first goal that comes is the one out of which it came, and the same comes of it once more.
        self._last = LastTold(steady)

    def taken(self, goal):
        """What comes of a goal: takings, and the goals that these left."""
        takings = []
        left = []
        waiting = [goal]
        while waiting:
            first = waiting.pop(0)
            told = self._told_of(first) if self._left > 0 else None
            if told is None:
                takings.append(None)
                left.append(first)
            elif told[0] == [first]:
                self._note_still()
                waiting = [first] + waiting
            else:
                self._left -= 1
                goals, way = told
                takings.append((way, len(goals)))
                waiting = goals + waiting
        return takings, left

    def _told_of(self, goal):
        """What the worker tells of a goal, or None where it fails."""
        if not self._last.is_of(goal):
            try:
                self._last.note(goal, self._worker.work(self._ground, goal))
            except Fails:
                self._last.note(goal, None)
        return self._last.answer()

    def _note_still(self):
        """The worker left just the goal itself: so it will each time from now on, till none is left."""
        self._still = True
        self._left = 0 if self._skips else self._left - 1

    def is_still(self):
        """Whether nothing would come any more if the worker were put again, however often."""
        return self._still or self._left > 0


class Closed(Worker):
    """One worker, where no goals are left."""

    def __init__(self, one):
        self._one = one
        self.has_again = _have_again([one])
        self._steady = are_steady([one])

    def work(self, ground, goal):
        """No goals."""
        need_goal(ground, goal)
        goals, way = self._one.work(ground, goal)
        demand(not goals, "goals are left")
        return goals, way

    def is_steady(self):
        """Whether all that it is made of is steady."""
        return self._steady


def _have_again(workers):
    """Whether some of these workers are joined of one that goes on again and again."""
    for worker in workers:
        if isinstance(worker, (Then, Else, Try, Each, Again, Closed)) and worker.has_again:
            return True
    return False
