import copy
import unittest

from goalsmith.papers import cut, laid_in, leans
from goalsmith.reader import read_paper
from tests.papersupport import A, GROUND, NO, P, Q, R, S, given, same
from tests.support import ZERO
from tests.test_reader import RULES, right_paper


def lent(at):
    return ("lent", (), (at,))


def take(saying):
    return ("take", (), (saying,))


class TestLaidIn(unittest.TestCase):
    def laid(self, paper, goals, parts, due=None):
        """Laid together, and read: parts are tuples of a paper and the goals lent to it."""
        first = read_paper(GROUND, goals, paper)
        told = laid_in(paper, [(part, len(more)) for part, more in parts])
        whole = [goal for _, more in parts for goal in more]
        self.assertEqual(read_paper(GROUND, whole, told), first if due is None else due)
        for at, step in enumerate(told):
            self.assertNotIn(step, told[:at])
        return told

    def test_laid_in(self):
        paper = [lent(1), ("so", (0,), (P,)), lent(0), ("use", (1, 2), ())]
        goals = [((), P), ((P,), Q)]
        one = ([lent(0), ("left", (0,), ())], [((), ("and", P, R))])
        other = ([lent(1), ("more", (0,), (P,))], [((), R), ((), Q)])
        told = self.laid(paper, goals, [one, other])
        self.assertEqual(leans(told), [0, 2])

    def test_numbers_one_behind_the_other(self):
        paper = [lent(2), lent(0), ("both", (0, 1), ()), lent(1), ("both", (2, 3), ())]
        goals = [((), P), ((), Q), ((), R)]
        parts = [([lent(1)], [((), NO), ((), P)]), ([lent(0)], [((), Q)]), ([lent(2)], [((), NO), ((), NO), ((), R)])]
        self.assertEqual(leans(self.laid(paper, goals, parts)), [1, 2, 5])

    def test_parts_without_lent_goals(self):
        paper = [lent(0), lent(1), ("both", (0, 1), ())]
        parts = [([take(P)], []), ([lent(0)], [((), Q)])]
        self.assertEqual(leans(self.laid(paper, [((P,), P), ((), Q)], parts)), [0])

    def test_nothing_lent(self):
        paper = [take(P), ("so", (0,), (P,))]
        self.assertEqual(self.laid(paper, [], []), paper)

    def test_no_step_twice(self):
        paper = [take(P), lent(0), take(P), ("both", (0, 2), ()), ("both", (1, 3), ()), lent(0), ("both", (5, 4), ())]
        told = self.laid(paper, [((P,), P)], [([take(P)], [])])
        self.assertEqual(told, [take(P), ("both", (0, 0), ()), ("both", (0, 1), ()), ("both", (0, 2), ())])

    def test_parts_alike(self):
        """What several parts hold alike is written once."""
        parts = [([lent(0), take(P), ("both", (0, 1), ())], [((), Q)])] * 2
        goals = [((P,), ("and", Q, P))] * 2
        told = self.laid([lent(0), lent(1), ("both", (0, 1), ())], goals, parts)
        self.assertEqual(told.count(take(P)), 1)
        self.assertEqual(leans(told), [0, 1])

    def test_a_lent_step_alone(self):
        part = ([lent(0), ("left", (0,), ())], [((), ("and", P, Q))])
        self.assertEqual(self.laid([lent(0)], [((), P)], [part]), part[0])
        told = self.laid([lent(1)], [((), P), ((), P)], [part, part])
        self.assertEqual(told, [lent(1), ("left", (0,), ())])

    def test_ends_with_a_lent_step(self):
        part = ([lent(0), ("left", (0,), ())], [((), ("and", P, Q))])
        self.laid([take(R), lent(0)], [((), P)], [part])
        self.laid([take(R), ("so", (0,), (R,)), lent(0)], [((), P)], [part])

    def test_a_lent_step_twice(self):
        part = ([lent(0), ("left", (0,), ())], [((), ("and", P, Q))])
        self.laid([lent(0), lent(0)], [((), P)], [part])
        self.laid([lent(0), ("first", (0,), (Q,)), lent(0)], [((), P)], [part])
        self.laid([lent(0), lent(0), ("both", (0, 1), ())], [((), P)], [part])
        self.laid([lent(0), take(R), ("first", (0,), (Q,)), lent(0), ("both", (2, 3), ())], [((), P)], [part])

    def test_ends_with_what_is_held_ahead(self):
        """Where the last step is written already, it is the last one still."""
        told = self.laid([take(P), take(Q), take(P)], [], [])
        self.assertEqual(told[-1], take(P))
        self.laid([take(P), ("so", (0,), (P,)), lent(0)], [((P,), P)], [([take(P)], [])])
        self.laid([lent(0), take(Q), lent(1)], [((P,), P)] * 2, [([take(P)], []), ([take(R), take(P)], [])])
        paper = [take(P), ("first", (0,), (Q,)), lent(0)]
        self.laid(paper, [((P,), ("or", P, Q))], [([take(R), take(P), ("first", (1,), (Q,))], [])])

    def test_without_steps(self):
        self.assertEqual(laid_in([], []), [])
        self.assertEqual(laid_in([], [([take(P)], 0)]), [])

    def test_one_too_few(self):
        """Goals that no paper holds are told wrong by the reader."""
        paper = [take(R), lent(0), lent(1), ("both", (1, 2), ())]
        goals = [((), P), ((), Q)]
        for parts in ([], [([lent(0)], 1)], [([lent(1)], 2)], [([lent(0)], 1), ([], 0)], [([lent(0)], 1), ([], 3)]):
            many = sum(more for _, more in parts)
            told = laid_in(paper, parts)
            self.assertEqual(read_paper(GROUND, goals[:1] * many, told)[0], "wrong", parts)

    def test_another_goal(self):
        """What is laid in and holds another goal is read to what it then holds, or told wrong."""
        paper = [lent(0), ("left", (0,), ())]
        goals = [((), ("and", P, Q))]
        self.laid(paper, goals, [([lent(0)], [((), ("and", R, S))])], ("held", (), R))
        self.laid(paper, goals, [([lent(0)], [((), ("or", R, S))])], ("wrong", 1))
        more = [lent(0), ("more", (0,), (R,))]
        self.laid(paper, goals, [(more, goals)], ("held", (R,), P))

    def test_each_rule(self):
        for rule in RULES:
            goals, steps, step = right_paper(rule)
            parts = [([take(NO), lent(0), ("left", (1,), ())], [(held, ("and", saying, NO))]) for held, saying in goals]
            if rule != "lent":
                self.laid(steps + [step], goals, parts)

    def test_handed_in_stays(self):
        paper = [lent(0), lent(1), ("both", (0, 1), ())]
        parts = [([take(P)], 0), ([lent(1), take(Q)], 2)]
        was = copy.deepcopy((paper, parts))
        told = laid_in(paper, parts)
        self.assertEqual((paper, parts), was)
        again = laid_in(paper, parts)
        told.clear()
        self.assertEqual(laid_in(paper, parts), again)
        self.assertEqual((paper, parts), was)
        one = [take(P)]
        laid_in(one, []).clear()
        self.assertEqual(one, [take(P)])


class TestLeans(unittest.TestCase):
    def test_leans(self):
        self.assertEqual(leans([]), [])
        self.assertEqual(leans([take(P)]), [])
        self.assertEqual(leans([lent(3)]), [3])
        self.assertEqual(leans([lent(3), lent(1), ("both", (0, 1), ()), lent(3), lent(12), lent(2)]), [1, 2, 3, 12])

    def test_those_too_on_which_the_last_does_not_lean(self):
        self.assertEqual(leans([lent(1), take(P)]), [1])

    def test_other_numbers_in_brackets(self):
        self.assertEqual(leans([take(same(A, ZERO)), ("part", (0,), (5,)), lent(7), lent(7)]), [7])


class TestCut(unittest.TestCase):
    def test_cut(self):
        self.assertEqual(cut([lent(3), lent(1), ("both", (0, 0), ())]), [lent(3), ("both", (0, 0), ())])
        self.assertEqual(cut([take(P), take(Q), take(R), ("both", (2, 0), ())]), [take(P), take(R), ("both", (1, 0), ())])
        paper = [take(P), take(Q), ("both", (0, 1), ()), lent(4), ("left", (2,), ()), ("left", (2,), ())]
        self.assertEqual(cut(paper), [take(P), take(Q), ("both", (0, 1), ()), ("left", (2,), ())])

    def test_nothing_to_cut(self):
        for paper in ([], [lent(2)], [take(P)], [lent(1), ("so", (0,), (P,))], [take(P), take(P), ("both", (0, 1), ())]):
            self.assertEqual(cut(paper), paper)

    def test_a_lent_step(self):
        self.assertEqual(cut([take(P), lent(2)]), [lent(2)])
        self.assertEqual(cut([lent(2), take(P), lent(2)]), [lent(2)])
        self.assertEqual(cut([lent(2), take(P)]), [take(P)])

    def test_reads_alike(self):
        for rule in RULES:
            goals, steps, step = right_paper(rule)
            paper = [take(NO), ("any", (0,), (P,))]
            for _, uses, told in steps:
                paper += [("lent", uses, told), take(R)]
            paper.append((step[0], tuple(2 + 2 * use for use in step[1]), step[2]))
            self.assertEqual(cut(paper), steps + [step])
            self.assertEqual(read_paper(GROUND, goals, cut(paper)), read_paper(GROUND, goals, paper))
            self.assertEqual(read_paper(GROUND, goals, paper)[0], "held")

    def test_handed_in_stays(self):
        paper = [take(P), take(Q), ("so", (1,), (Q,))]
        was = copy.deepcopy(paper)
        cut(paper).clear()
        leans(paper).append(1)
        self.assertEqual(paper, was)
        self.assertEqual(cut(paper), [take(Q), ("so", (0,), (Q,))])
        whole = [take(P)]
        cut(whole).clear()
        empty = []
        cut(empty).append(None)
        self.assertEqual((whole, empty), ([take(P)], []))

    def test_long_papers(self):
        paper = [take(P)] + [("more", (max(0, at - at % 2),), (Q,)) for at in range(4001)]
        self.assertEqual(len(cut(paper)), 2002)
        self.assertEqual(read_paper(GROUND, [], cut(paper)), ("held", given(P, Q), P))


if __name__ == "__main__":
    unittest.main()
