import copy
import itertools
import unittest

from goalsmith.errors import NoGoal
from goalsmith.goals import goal_of, is_goal, new_names
from goalsmith.grounds import Ground
from tests.papersupport import A, B, GROUND, NO, NO_SAYINGS, OTHER, P, Q, R, bound, given, nots, numbered, same
from tests.support import THINGS, WORDS, Alike, doubled, is_name_text, made, name, num, refused, wide


class TestGoalOf(unittest.TestCase):
    def test_goals(self):
        self.assertEqual(goal_of(GROUND, [], P), ((), P))
        self.assertEqual(goal_of(GROUND, [P], NO), ((P,), NO))

    def test_sorted_and_each_once(self):
        for row in itertools.permutations([NO, P, Q, ("not", R)]):
            self.assertEqual(goal_of(GROUND, list(row), P), (tuple(sorted(row)), P))
        self.assertEqual(goal_of(GROUND, [P, Q, P, P, Q], P), (given(P, Q), P))
        self.assertEqual(goal_of(GROUND, [NO, NO], NO), ((NO,), NO))

    def test_twenty_given(self):
        sayings = numbered(21)
        self.assertEqual(goal_of(GROUND, sayings[:20], P), (given(*sayings[:20]), P))
        self.assertEqual(goal_of(GROUND, sayings[:20] * 2, P), (given(*sayings[:20]), P))
        refused(self, NoGoal, goal_of, GROUND, sayings, P)
        refused(self, NoGoal, goal_of, GROUND, sayings[::-1] + sayings[:3], P)

    def test_great_sayings(self):
        self.assertEqual(goal_of(GROUND, [], nots(39))[1], nots(39))
        for great in (nots(40), nots(59), same(wide(100), wide(100)), same(num(39), num(2))):
            refused(self, NoGoal, goal_of, GROUND, [], great)
            refused(self, NoGoal, goal_of, GROUND, [great], P)
            refused(self, NoGoal, goal_of, GROUND, [P, great, Q], P)
        for many in (7, 8, 50):
            refused(self, NoGoal, goal_of, GROUND, [], same(doubled(many), made("leaf")))
            refused(self, NoGoal, goal_of, GROUND, [P, same(doubled(many), made("leaf"))], P)
        large = same(doubled(6), made("leaf"))
        self.assertEqual(goal_of(GROUND, [large], large), ((large,), large))
        large = same(wide(99), wide(100))
        self.assertEqual(goal_of(GROUND, [nots(39), large], large), (given(nots(39), large), large))

    def test_no_sayings(self):
        for thing in NO_SAYINGS + [Alike(), A, num(3)]:
            refused(self, NoGoal, goal_of, GROUND, [], thing)
            refused(self, NoGoal, goal_of, GROUND, [thing], P)
            refused(self, NoGoal, goal_of, GROUND, [P, thing], P)
            refused(self, NoGoal, goal_of, GROUND, [thing, P, Q], P)
        refused(self, NoGoal, goal_of, OTHER, [], same(made("one"), made("one")))
        refused(self, NoGoal, goal_of, Ground([], []), [P], NO)

    def test_given_that_is_no_list(self):
        for thing in THINGS + [(P,)]:
            if not isinstance(thing, list) or thing:
                refused(self, NoGoal, goal_of, GROUND, thing, P)

    def test_handed_in_stays(self):
        row = [Q, P, Q]
        was = copy.deepcopy(row)
        goal = goal_of(GROUND, row, NO)
        self.assertEqual(row, was)
        row.clear()
        self.assertEqual(goal, (given(P, Q), NO))


class TestIsGoal(unittest.TestCase):
    def test_goals(self):
        for goal in (((), P), ((P,), P), (given(P, Q, NO), nots(39)), (given(*numbered(20)), NO)):
            self.assertTrue(is_goal(GROUND, goal))

    def test_of_anything(self):
        for thing in THINGS + NO_SAYINGS + [Alike(), P, [(), P], ([], P), ((), P, P), ((),), ((P, P), P), (numbered(21), P), (None, P), (0, P), ("", P),
                                            (given(P, Q)[::-1], P), (given(*numbered(21)), P), ((), nots(40)), ((nots(40),), P)]:
            self.assertFalse(is_goal(GROUND, thing))
        for thing in NO_SAYINGS:
            self.assertFalse(is_goal(GROUND, ((), thing)))
            self.assertFalse(is_goal(GROUND, ((thing,), P)))


class TestNewNames(unittest.TestCase):
    LETTERS = list("abcdefghijklmnopqrstuvwxyz")

    def row(self, most):
        """The row of texts, by another way than the program's."""
        texts = ["".join(word) for many in (1, 2, 3) for word in itertools.product(self.LETTERS, repeat=many)]
        return [text for text in texts if text not in WORDS][:most]

    def test_first_names(self):
        goal = ((), NO)
        self.assertEqual(new_names(goal, [], 0), [])
        self.assertEqual(new_names(goal, [], 1), ["a"])
        self.assertEqual(new_names(goal, [], 3), ["a", "b", "c"])
        self.assertEqual(new_names(goal, [], 28)[-3:], ["z", "aa", "ab"])

    def test_fifty_and_several_hundred(self):
        goal = ((), NO)
        for many in (50, 374, 375, 376, 700, 1500):
            told = new_names(goal, [], many)
            self.assertEqual(told, self.row(many))
            self.assertTrue(all(map(is_name_text, told)))
            self.assertEqual(len(told), many)
        told = new_names(goal, [], 1200)
        for word in ("no", "or", "so", "all", "and", "not", "some"):
            self.assertNotIn(word, told)
        for word in ("nn", "np", "oq", "os", "sn", "sp", "alk", "alm"):
            self.assertIn(word, told)

    def test_free_names_are_left_out(self):
        for saying in (same(A, A), ("not", same(num(1), made("add", num(2), A))), ("all", "num", same(bound(0), A)),
                       same(name("a", "list"), name("a", "list")), ("and", NO, same(name("a", "thing"), name("a", "thing")))):
            self.assertEqual(new_names(((), saying), [], 2), ["b", "c"])
            self.assertEqual(new_names(((saying,), NO), [], 2), ["b", "c"])
            self.assertEqual(new_names((given(NO, P, saying), Q), [], 2), ["c", "d"])
            self.assertEqual(new_names(((), NO), [saying], 2), ["b", "c"])

    def test_names_of_what_a_worker_was_made_of(self):
        goal = ((), same(B, B))
        self.assertEqual(new_names(goal, [A], 2), ["c", "d"])
        self.assertEqual(new_names(goal, [made("cons", name("d"), name("a", "list"))], 2), ["c", "e"])
        self.assertEqual(new_names(goal, [same(bound(0), name("c", "list")), name("a", "spot")], 2), ["d", "e"])
        self.assertEqual(new_names(goal, [name("e"), name("aa"), NO, bound(0)], 2), ["a", "c"])

    def test_kinds_makers_and_works_are_not_left_out(self):
        one = Ground([("a", [("b", []), ("c", ["a"])])], [("d", ["a"], "a", None, [])])
        saying = ("all", "a", ("same", ("made", "d", (("made", "b", ()),)), ("bound", 0)))
        self.assertEqual(goal_of(one, [], saying), ((), saying))
        self.assertEqual(new_names(((), saying), [("made", "c", (("made", "b", ()),))], 3), ["a", "b", "c"])

    def test_many_taken(self):
        taken = [same(name(x), name(x, "num")) for x in self.LETTERS[:20]]
        self.assertEqual(new_names((given(*taken), NO), [name("v"), name("aa", "list")], 7), ["u", "w", "x", "y", "z", "ab", "ac"])

    def test_handed_in_stays(self):
        things = [A, B]
        goal = ((P,), Q)
        told = new_names(goal, things, 2)
        told.clear()
        self.assertEqual(things, [A, B])
        self.assertEqual(new_names(goal, things, 2), ["c", "d"])


if __name__ == "__main__":
    unittest.main()
