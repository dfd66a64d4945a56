import unittest

from goalsmith.writers import GoalWriter, StepWriter
from tests.papersupport import NO, P, Q, R

STEPS = [
    ("take", (), (P,)),
    ("take", (), (Q,)),
    ("first", (0,), (Q,)),
    ("both", (0, 1), ()),
    ("both", (1, 0), ()),
    ("take", (), (R,)),
    ("first", (0,), (R,)),
    ("second", (0,), (R,)),
    ("first", (1,), (Q,)),
    ("first", (0,), (NO,)),
]


class TestSteps(unittest.TestCase):
    def test_new_ones(self):
        writer = StepWriter()
        self.assertEqual([writer.number_of(step) for step in STEPS], list(range(len(STEPS))))
        self.assertEqual(writer.row(), STEPS)

    def test_each_once(self):
        """Alone by its rule and what it uses, as the second such, and as a later one, a step is known again."""
        for many in range(1, len(STEPS) + 1):
            writer = StepWriter()
            for at, step in enumerate(STEPS[:many]):
                self.assertEqual(writer.number_of(step), at)
                for other, known in enumerate(STEPS[:at + 1]):
                    self.assertEqual(writer.number_of(known), other)
            again = StepWriter()
            for step in STEPS[:many]:
                again.number_of(step)
            self.assertEqual([again.number_of(step) for step in reversed(STEPS[:many])], list(reversed(range(many))))
            self.assertEqual(writer.row(), STEPS[:many])
            self.assertEqual(again.row(), STEPS[:many])

    def test_alike_things(self):
        """True is no number, though it is the same as one."""
        writer = StepWriter()
        steps = [("part", (0,), (1,)), ("part", (0,), (True,)), ("part", (False,), (1,)), ("lent", (), (0,)), ("lent", (), (False,))]
        self.assertEqual([writer.number_of(step) for step in steps + steps], list(range(5)) * 2)

    def test_told_lists(self):
        writer = StepWriter()
        writer.number_of(STEPS[0])
        writer.row().clear()
        self.assertEqual(writer.row(), STEPS[:1])


class TestGoals(unittest.TestCase):
    def test_each_once(self):
        writer = GoalWriter()
        goals = [((), P), ((P,), P), ((), Q), ((P, Q), P)]
        self.assertEqual([writer.number_of(goal) for goal in goals + goals[::-1]], [0, 1, 2, 3, 3, 2, 1, 0])
        self.assertEqual(writer.row(), goals)


if __name__ == "__main__":
    unittest.main()
