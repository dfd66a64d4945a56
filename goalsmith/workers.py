"""What all workers have in common."""

from goalsmith.errors import Fails, NoGoal, NoRule, NotFalling, TooFar
from goalsmith.goals import is_goal
from goalsmith.ways import Way


class Worker:
    """Turns a goal into goals, with a way that leads back, or fails; it keeps nothing of the goal."""

    def work(self, ground, goal):
        """The goals that are left, and the way back from these to the goal, which may be anything."""
        if not is_goal(ground, goal):
            raise Fails("a worker is put to a goal")
        return self.led(ground, goal)

    def led(self, ground, goal):
        """The goals that are left, and the way back, of what is a goal."""
        way = Way(ground, goal)
        try:
            number = self.turned(way)
        except (NoGoal, NoRule):
            raise Fails("what would come is no goal")
        except (NotFalling, TooFar):
            raise Fails("what would be rewritten makes no rule, or would not come to rest")
        return way.ended(number)

    def turned(self, way):
        """Leave goals and write steps; the number of the step that holds the goal's saying."""
        raise Fails("this worker knows no way")
