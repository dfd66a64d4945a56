"""Inputs that take long: works that go on again and again, and rewriting by many rewrites."""

import unittest

from goalsmith.goals import goal_of
from goalsmith.joined import Again, Then
from goalsmith.kernel import Kernel
from goalsmith.plainworkers import Absurd, Contrary
from goalsmith.reader import read_paper
from goalsmith.resting import at_rest, to_rest
from goalsmith.rules import work_rules
from goalsmith.sayingtexts import read_saying
from goalsmith.termtexts import read_ground
from goalsmith.works import read_work
from tests.papersupport import bound, same
from tests.support import ZERO, made, name, num
from tests.workersupport import reads

GROUND = read_ground("kind num: zero; next(num)\nwork plus(num, num) num at 0: xb:num; next(plus(ya:num, xb:num))\n")
SAYING = ("all", "num", same(made("plus", bound(0), ZERO), made("plus", ZERO, bound(0))))
CHOICES = [("or", same(name(x), ZERO), same(name(x), num(1))) for x in "abcdefghij"]
GOAL = (tuple(CHOICES), SAYING)


def with_more(*sayings):
    """The goal, with these sayings given besides."""
    return (tuple(sorted(CHOICES + list(sayings))), SAYING)


class TestAgain(unittest.TestCase):
    def leaves(self, text, many):
        """Put to the goal, the work leaves so many goals, with a way that reads; the first and the last of them."""
        goals, way = read_work(GROUND, text, {}).work(GROUND, GOAL)
        self.assertEqual(len(goals), many)
        reads(self, GROUND, GOAL, goals, way)
        held = Kernel(GROUND).by_paper(way, goals)
        self.assertEqual((held.given(), held.saying()), GOAL)
        self.assertEqual(read_paper(GROUND, held.lent(), held.paper()), ("held",) + GOAL)
        return goals[0], goals[-1]

    def test_one_given_choice_again(self):
        """Each time the first goal left is taken, its first case comes again: the last goal is the first taking's other."""
        first, last = self.leaves("apart 0 *", 51)
        self.assertEqual(first, with_more(same(name("a"), ZERO)))
        self.assertEqual(last, with_more(same(name("a"), num(1))))

    def test_two_given_choices_again(self):
        first, last = self.leaves("( apart 0 ; apart 1 ) *", 151)
        self.assertEqual(first, with_more(same(name("a"), ZERO), same(name("b"), ZERO)))
        self.assertEqual(last, with_more(same(name("a"), num(1)), same(name("b"), num(1))))


def goal_told(saying, *given):
    """The goal of these texts."""
    return goal_of(GROUND, [read_saying(GROUND, one) for one in given], read_saying(GROUND, saying))


class TestTheGoalItself(unittest.TestCase):
    """Works that go on again and again where just the goal itself is left, time after time."""

    NONE = goal_told("no")
    NOT_NO = goal_told("no", "not no")
    CHOICE = "(no or a:num = a:num)"
    UNLIKE = "not next(a:num) = zero"
    SUPPOSED = "(a:num = b:num so a:num = b:num)"
    TURNED = "plus(a:num, zero) = plus(zero, a:num)"

    def leaves(self, text, worker, one, due):
        """Put to the goal, the work, read or made by hand, leaves just one goal, with a way that reads."""
        read = read_work(GROUND, text, {})
        goals, way = read.work(GROUND, one)
        self.assertEqual(goals, [due])
        reads(self, GROUND, one, goals, way)
        held = Kernel(GROUND).by_paper(way, goals)
        self.assertEqual((held.given(), held.saying()), one)
        self.assertEqual(read_paper(GROUND, held.lent(), held.paper()), ("held",) + one)
        self.assertEqual(worker.work(GROUND, one), (goals, way))
        self.assertEqual(read.work(GROUND, one), (goals, way))

    def test_absurd(self):
        self.leaves("absurd", Absurd(), self.NONE, self.NONE)
        self.leaves("absurd *", Again(Absurd(), 50), self.NONE, self.NONE)
        self.leaves("absurd *", Again(Absurd(), 50), goal_told(self.TURNED, "no"), goal_told("no", "no"))

    def test_contrary(self):
        self.leaves("contrary", Contrary(), self.NONE, self.NOT_NO)
        self.leaves("contrary *", Again(Contrary(), 50), self.NONE, self.NOT_NO)

    def test_contrary_with_more_given(self):
        more = (self.CHOICE, self.UNLIKE, self.SUPPOSED)
        # From the second putting on it is no that is denied.
        due = goal_told("no", "not " + self.TURNED, "not no", *more)
        self.leaves("contrary *", Again(Contrary(), 50), goal_told(self.TURNED, *more), due)

    def test_several_behind_one_another(self):
        worker = Again(Then(Then(Contrary(), Contrary()), Absurd()), 50)
        more = (self.CHOICE, self.UNLIKE)
        self.leaves("( contrary ; contrary ; absurd ) *", worker, goal_told("no", *more), goal_told("no", "not no", *more))

    def test_agains_behind_one_another(self):
        again = Again(Contrary(), 50)
        self.leaves("contrary * ; contrary * ; contrary *", Then(Then(again, again), again), self.NONE, self.NOT_NO)

    def test_often_enough(self):
        """What a worker leaves the first few times, each time another goal, up to the told number of times."""
        turned = "not " + self.TURNED
        for most, due in ((0, goal_told(self.TURNED)), (1, goal_told("no", turned)), (2, goal_told("no", turned, "not no")),
                          (3, goal_told("no", turned, "not no"))):
            goals, way = Again(Contrary(), most).work(GROUND, goal_told(self.TURNED))
            self.assertEqual(goals, [due])
            reads(self, GROUND, goal_told(self.TURNED), goals, way)


class TestRest(unittest.TestCase):
    SOURCES = [("plus", 0), ("plus", 1)]

    def test_many_rewrites(self):
        part = made("plus", num(3), num(1))
        term = part
        for _ in range(5):
            term = made("plus", term, part)
        self.assertEqual(len(to_rest(GROUND, work_rules(GROUND, "plus"), term)), 89)
        kernel = Kernel(GROUND)
        held = at_rest(kernel, self.SOURCES, term)
        due = ((), same(term, num(24)))
        self.assertEqual((held.given(), held.saying()), due)
        self.assertEqual(held.lent(), [])
        self.assertEqual(read_paper(GROUND, [], held.paper()), ("held",) + due)
        again = kernel.by_paper(held.paper(), [])
        self.assertEqual((again.given(), again.saying(), again.paper()), due + (held.paper(),))


if __name__ == "__main__":
    unittest.main()
