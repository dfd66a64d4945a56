"""The finder: it looks for a row of workers that leaves no goals."""

from goalsmith.errors import Fails
from goalsmith.takings import Row, laid_out
from goalsmith.workers import Worker, are_steady, need_goal


class Finder(Worker):
    """Puts workers to goals, and goes back where none is left to be tried, within a number of tries."""

    def __init__(self, workers, tries):
        self._workers = list(workers)
        self._most = tries
        self._tries = 0
        self._steady = are_steady(self._workers)

    def work(self, ground, goal):
        """The goals of the first of the shortest rows that stood, and the way back from these."""
        self._tries = 0
        need_goal(ground, goal)
        search = Search(ground, goal, self._workers, self._most)
        search.run()
        self._tries = search.tries()
        return search.ended()

    def tried(self):
        """How many tries the last work took."""
        return self._tries

    def is_steady(self):
        """Whether all workers that it tries are steady."""
        return self._steady


class Search:
    """A row of goals, the takings by which it came, and what there is to go back to."""

    def __init__(self, ground, goal, workers, most):
        self._ground = ground
        self._workers = workers
        self._most = most
        self._tries = 0
        # All goals that came, by numbers, and for each the number of the one out of which it came.
        self._goals = [goal]
        self._came_of = [None]
        self._row = [0]
        self._takings = []
        # For each taking the row as it stood, and the place of the first worker that was untried.
        self._back = []

    def tries(self):
        """How many tries were made."""
        return self._tries

    def ended(self):
        """The goals of the first of the shortest rows that stood, and the way back."""
        if not self._row:
            return [], laid_out(self._takings)
        # The first row is of one goal: none but a row without goals is shorter.
        return Row(self._goals[0]).ended()

    def run(self):
        """Take goals until none is left, no try, or nothing to go back to."""
        at = 0
        while self._row and at is not None:
            at = self._taken(at)

    def _taken(self, at):
        """Put the workers from a place on to the first goal; the place from which it goes on, or None at the end."""
        first = self._row[0]
        # Where some were tried already, it was looked at before.
        if at == 0 and self._comes_of_itself(first):
            return self._gone_back()
        for place in range(at, len(self._workers)):
            if self._tries >= self._most:
                return None
            self._tries += 1
            told = self._worked_by(self._workers[place], first)
            if told is not None:
                goals, way = told
                self._stand(place + 1, goals, way)
                return 0
        return self._gone_back()

    def _comes_of_itself(self, number):
        ahead = self._came_of[number]
        while ahead is not None:
            if self._goals[ahead] == self._goals[number]:
                return True
            ahead = self._came_of[ahead]
        return False

    def _worked_by(self, worker, number):
        try:
            return worker.work(self._ground, self._goals[number])
        except Fails:
            return None

    def _stand(self, untried, goals, way):
        """Put the goals that came in the place of the first one."""
        self._back.append((self._row, untried))
        self._takings.append((way, len(goals)))
        numbers = [len(self._goals) + k for k in range(len(goals))]
        self._goals.extend(goals)
        self._came_of.extend([self._row[0] for _ in goals])
        self._row = numbers + self._row[1:]

    def _gone_back(self):
        """Go back to the last taking at which a worker is untried; its place, or None where there is no such taking."""
        while self._back:
            self._row, at = self._back.pop()
            self._takings.pop()
            if at < len(self._workers):
                return at
        return None
