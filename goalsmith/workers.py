"""What all workers have in common."""

from goalsmith.errors import Fails, NoGoal, NoRule, NotFalling, TooFar
from goalsmith.goals import is_goal
from goalsmith.ways import Way


def need_goal(ground, thing):
    """A thing to which a worker is put, whatever it is, must be a goal of the ground."""
    if not is_goal(ground, thing):
        raise Fails("a worker is put to a goal")


class Worker:
    """Turns a goal into goals, with a way that leads back, or fails; it keeps nothing of the goal."""

    # Each of this package is so; of one made elsewhere it isn't known, and it may count how often it is put.
    STEADY = False

    def work(self, ground, goal):
        """The goals that are left, and the way back from these to the goal, which may be anything."""
        need_goal(ground, goal)
        way = Way(ground, goal)
        try:
            number = self.turned(way)
        except (NoGoal, NoRule):
            raise Fails("what would come is no goal")
        except (NotFalling, TooFar):
            raise Fails("what would be rewritten makes no rule, or would not come to rest")
        return way.ended(number)

    def is_steady(self):
        """Whether it is known that, put to a goal once more, it tells just what it told of it before."""
        return self.STEADY

    def turned(self, way):
        """Leave goals and write steps; the number of the step that holds the goal's saying."""
        raise Fails("this worker knows no way")


def are_steady(workers):
    """Whether all of these workers are steady."""
    for worker in workers:
        if not isinstance(worker, Worker) or not worker.is_steady():
            return False
    return True
