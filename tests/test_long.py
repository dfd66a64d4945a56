"""Inputs that take long: works that go on again and again, and rewriting by many rewrites."""

import unittest

from goalsmith.kernel import Kernel
from goalsmith.reader import read_paper
from goalsmith.resting import at_rest, to_rest
from goalsmith.rules import work_rules
from goalsmith.termtexts import read_ground
from goalsmith.works import read_work
from tests.papersupport import bound, same
from tests.support import ZERO, made, name, num
from tests.workersupport import reads

GROUND = read_ground("kind num: zero; next(num)\nwork plus(num, num) num at 0: xb:num; next(plus(ya:num, xb:num))\n")
SAYING = ("all", "num", same(made("plus", bound(0), ZERO), made("plus", ZERO, bound(0))))
CHOICES = [("or", same(name(x), ZERO), same(name(x), num(1))) for x in "abcdefghij"]
GOAL = (tuple(CHOICES), SAYING)


def with_more(*sayings):
    """The goal, with these sayings given besides."""
    return (tuple(sorted(CHOICES + list(sayings))), SAYING)


class TestAgain(unittest.TestCase):
    def leaves(self, text, many):
        """Put to the goal, the work leaves so many goals, with a way that reads; the first and the last of them."""
        goals, way = read_work(GROUND, text, {}).work(GROUND, GOAL)
        self.assertEqual(len(goals), many)
        reads(self, GROUND, GOAL, goals, way)
        held = Kernel(GROUND).by_paper(way, goals)
        self.assertEqual((held.given(), held.saying()), GOAL)
        self.assertEqual(read_paper(GROUND, held.lent(), held.paper()), ("held",) + GOAL)
        return goals[0], goals[-1]

    def test_one_given_choice_again(self):
        """Each time the first goal left is taken, its first case comes again: the last goal is the first taking's other."""
        first, last = self.leaves("apart 0 *", 51)
        self.assertEqual(first, with_more(same(name("a"), ZERO)))
        self.assertEqual(last, with_more(same(name("a"), num(1))))

    def test_two_given_choices_again(self):
        first, last = self.leaves("( apart 0 ; apart 1 ) *", 151)
        self.assertEqual(first, with_more(same(name("a"), ZERO), same(name("b"), ZERO)))
        self.assertEqual(last, with_more(same(name("a"), num(1)), same(name("b"), num(1))))


class TestRest(unittest.TestCase):
    SOURCES = [("plus", 0), ("plus", 1)]

    def test_many_rewrites(self):
        part = made("plus", num(3), num(1))
        term = part
        for _ in range(5):
            term = made("plus", term, part)
        self.assertEqual(len(to_rest(GROUND, work_rules(GROUND, "plus"), term)), 89)
        kernel = Kernel(GROUND)
        held = at_rest(kernel, self.SOURCES, term)
        due = ((), same(term, num(24)))
        self.assertEqual((held.given(), held.saying()), due)
        self.assertEqual(held.lent(), [])
        self.assertEqual(read_paper(GROUND, [], held.paper()), ("held",) + due)
        again = kernel.by_paper(held.paper(), [])
        self.assertEqual((again.given(), again.saying(), again.paper()), due + (held.paper(),))


if __name__ == "__main__":
    unittest.main()
