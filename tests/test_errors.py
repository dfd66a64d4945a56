import unittest

from goalsmith import errors

PLAIN = ("NoGround", "NoText", "NoData", "TooMany", "TooFar", "NoRule", "NoGoal", "Fails", "NotFalling", "NoRewrite")
ROWED = ("NoRow", "BadText", "Taken", "NoName", "Unfit")


def all_made():
    made = [getattr(errors, word)("a text") for word in PLAIN]
    made.extend(getattr(errors, word)(7) for word in ROWED)
    made.append(errors.Left(7, [((), ("no",))]))
    return made


class TestErrors(unittest.TestCase):
    def test_each_is_straight_under_smith_error(self):
        self.assertEqual(len(all_made()), 16)
        self.assertTrue(issubclass(errors.SmithError, ValueError))
        for error in all_made():
            self.assertEqual(error.__class__.__bases__, (errors.SmithError,))
            self.assertIsInstance(error, ValueError)

    def test_none_is_another(self):
        classes = [error.__class__ for error in all_made()]
        for error in all_made():
            self.assertEqual([one for one in classes if isinstance(error, one)], [error.__class__])

    def test_made_of_a_text(self):
        for word in PLAIN:
            self.assertEqual(str(getattr(errors, word)("why so")), "why so")

    def test_at_is_kept(self):
        for at in (0, 1, 12345, 10 ** 30, 10 ** 6000):
            for word in ROWED:
                error = getattr(errors, word)(at)
                self.assertEqual(error.at, at)
                self.assertIsInstance(str(error), str)
            self.assertEqual(errors.Left(at, []).at, at)
            self.assertIsInstance(str(errors.Left(at, [])), str)

    def test_goals_are_kept(self):
        goals = [((), ("no",)), ((("no",),), ("not", ("no",)))]
        error = errors.Left(3, goals)
        self.assertEqual(error.goals, goals)
        goals.append(None)
        self.assertEqual(error.goals, goals[:2])


if __name__ == "__main__":
    unittest.main()
