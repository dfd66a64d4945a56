"""Joined workers: made of other workers, and put to a goal as one."""

from goalsmith.errors import Fails
from goalsmith.takings import Row
from goalsmith.ways import demand
from goalsmith.workers import Worker


class Then(Worker):
    """One worker, then the other on each goal left."""

    def __init__(self, one, other):
        self._one = one
        self._other = other

    def led(self, ground, goal):
        """What the other leaves of each goal."""
        # A row joined from the left may be long: each of it is put to the goals in turn, none within another.
        workers = []
        last = self
        while isinstance(last, Then):
            workers.append(last._other)
            last = last._one
        row = Row(goal)
        for worker in [last] + workers[::-1]:
            row.put_to(ground, [worker for _ in row.goals_left()])
        return row.ended()


class Else(Worker):
    """One worker; where it fails, the other."""

    def __init__(self, one, other):
        self._one = one
        self._other = other

    def led(self, ground, goal):
        """What the first one leaves that doesn't fail."""
        # A row joined from the left may be long, as above.
        workers = []
        last = self
        while isinstance(last, Else):
            workers.append(last._other)
            last = last._one
        row = [last] + workers[::-1]
        for worker in row[:-1]:
            try:
                return worker.work(ground, goal)
            except Fails:
                continue
        return row[-1].work(ground, goal)


class Try(Worker):
    """One worker; where it fails, the goal itself is left."""

    def __init__(self, one):
        self._one = one

    def led(self, ground, goal):
        """What the one leaves, or the goal."""
        try:
            return self._one.work(ground, goal)
        except Fails:
            return Row(goal).ended()


class Each(Worker):
    """One worker, then on each goal left a worker of its own."""

    def __init__(self, one, workers):
        self._one = one
        self._workers = list(workers)

    def led(self, ground, goal):
        """What its own worker leaves of each goal."""
        row = Row(goal)
        row.put_to(ground, [self._one])
        demand(len(row.goals_left()) == len(self._workers), "there is a worker for just each goal left")
        row.put_to(ground, self._workers)
        return row.ended()


class Again(Worker):
    """One worker, and again on each goal left, as long as it doesn't fail, and at most so many times in all."""

    def __init__(self, one, most):
        self._one = one
        self._most = most

    def led(self, ground, goal):
        """What is left where the one fails, or has been put often enough."""
        row = Row(goal)
        ahead = 0
        for again in self._from_the_innermost():
            times = Times(ground, again._one, again._most - ahead)
            row.take_on([times.taken(one) for one in row.goals_left()])
            if times.is_still():
                break
            # The one within has been put once.
            ahead = 1
        return row.ended()

    def _from_the_innermost(self):
        """Those that stand straight one within another, this one last; each goes on where that within it ended."""
        found = []
        last = self
        while isinstance(last, Again) and last._most > 0:
            found.append(last)
            last = last._one
        return found[::-1]


class Times:
    """How many times a worker may be put yet, where it doesn't fail."""

    def __init__(self, ground, worker, most):
        self._ground = ground
        self._worker = worker
        self._left = most
        self._still = False

    def taken(self, goal):
        """What comes of a goal: takings, and the goals that these left."""
        takings = []
        left = []
        waiting = [goal]
        while waiting:
            first = waiting.pop(0)
            told = self._worked(first)
            if told is None:
                takings.append(None)
                left.append(first)
            else:
                goals, way = told
                takings.append((way, len(goals)))
                waiting = goals + waiting
        return takings, left

    def _worked(self, goal):
        """What the worker tells, or None where it fails, or is not put any more."""
        if self._left <= 0:
            return None
        try:
            told = self._worker.work(self._ground, goal)
        except Fails:
            return None
        self._left -= 1
        if told[0] == [goal]:
            # It would leave this goal each time from now on.
            self._left = 0
            self._still = True
            return None
        return told

    def is_still(self):
        """Whether nothing would come any more if the worker were put again, however often."""
        return self._still or self._left > 0


class Closed(Worker):
    """One worker, where no goals are left."""

    def __init__(self, one):
        self._one = one

    def led(self, ground, goal):
        """No goals."""
        goals, way = self._one.work(ground, goal)
        demand(not goals, "goals are left")
        return goals, way
