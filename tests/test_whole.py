"""What the document promises over the whole program: of what workers, finders and books come to, from a fixed seed."""

import itertools
import random
import unittest

from goalsmith.books import read_book
from goalsmith.cases import ByCases, ByMakers
from goalsmith.errors import Fails, TooFar
from goalsmith.finder import Finder
from goalsmith.goals import is_goal
from goalsmith.goingdown import Down
from goalsmith.joined import Again, Closed, Each, Else, Then, Try
from goalsmith.kernel import Kernel
from goalsmith.meets import come_together
from goalsmith.papers import cut, laid_in, leans
from goalsmith.plainworkers import (
    Absurd,
    Alike,
    Apart,
    At,
    Both,
    Contrary,
    Cut,
    First,
    Fix,
    Given,
    Put,
    Second,
    Show,
    Suppose,
)
from goalsmith.reader import read_paper
from goalsmith.resting import Rewrite, at_rest, rewritten, to_rest
from goalsmith.rows import ByRows
from goalsmith.rules import held_rule, work_rules
from goalsmith.sayings import free_in, shut
from goalsmith.truths import true_at, true_in
from tests.papersupport import NO, bound, same
from tests.support import ZERO, made, name, num
from tests.test_books import BOOK
from tests.test_soundness import LOVE, NUMBERS, worlds

X = bound(0)
a, b = name("a", "thing"), name("b", "thing")
ME = made("me")
THINGS = [a, b, ME, made("love", a, b), made("love", ME, ME)]
A, B, C = (name(x) for x in "abc")
NUMS = [A, B, ZERO, num(1), made("next", A), made("add", A, B), made("add", num(1), A), made("twice", A), made("one"), made("add", A, ZERO)]
WORLDS = list(worlds())


def is_true_everywhere(test, given, saying):
    """In each small world, at each filling at which what is given is true; how often it was."""
    names = free_in(list(given) + [saying])
    looked_at = 0
    for world in WORLDS:
        for things in itertools.product(range(world[0]["thing"]), repeat=len(names)):
            filling = dict(zip(names, things))
            if all(true_in(LOVE, one, world, filling) for one in given):
                test.assertTrue(true_in(LOVE, saying, world, filling), (given, saying, world, filling))
                looked_at += 1
    return looked_at


def is_true_of_numbers(test, given, saying):
    names = free_in(list(given) + [saying])
    looked_at = 0
    for data in itertools.product([num(0), num(1), num(2), num(4)], repeat=len(names)):
        filling = dict(zip(names, data))
        try:
            if all([true_at(NUMBERS, one, filling) for one in given]):
                test.assertTrue(true_at(NUMBERS, saying, filling), (given, saying, filling))
                looked_at += 1
        except TooFar:
            continue
    return looked_at


def is_without_binding(sayings):
    return not any(f"('{word}'," in repr(sayings) for word in ("all", "some"))


class Chance:
    """Goals and workers, by chance, of terms of one kind."""

    def __init__(self, seed, ground, kind, terms):
        self.chance = random.Random(seed)
        self.ground, self.kind, self.terms = ground, kind, terms

    def saying(self, deep, binds=True):
        words = ["and", "or", "so", "so", "not"] + (["all", "some"] if binds else [])
        word = self.chance.choice(words) if deep and self.chance.random() < 0.7 else "same"
        if word == "same":
            return NO if self.chance.random() < 0.1 else same(*[self.chance.choice(self.terms[:4]) if self.chance.random() < 0.7 else self.chance.choice(self.terms)
                                                               for _ in range(2)])
        if word in ("all", "some"):
            return (word, self.kind, shut(self.saying(deep - 1, binds), self.chance.choice("ab"), self.kind))
        return (word,) + tuple(self.saying(deep - 1, binds) for _ in range(1 if word == "not" else 2))

    def goal(self, binds=True):
        given = [self.saying(self.chance.randrange(3), binds) for _ in range(self.chance.randrange(4))]
        return tuple(sorted(set(given))), self.saying(3, binds)

    def worker(self, one):
        chance = self.chance
        at, term, x = chance.randrange(4), chance.choice(self.terms), chance.choice("ab")
        saying = chance.choice(one[0] + (self.saying(1),))
        works = [work[0] for work in self.ground.works()]
        sources = [(f, k) for f in works for k in range(len(self.ground.rights(f)))]
        return chance.choice([
            Given(), Alike(), Both(), First(), Second(), Suppose(), Fix(), Show(term), Cut(saying), Contrary(), Absurd(), Apart(at), Apart(at), At(at, term),
            Put(at, self.kind, shut(one[1], x, self.kind)), ByCases(saying), ByMakers(term), ByRows(), Rewrite(sources), Down(x, self.kind, []),
            Down(x, self.kind, [("c", self.kind)]),
        ])

    def joined(self, one):
        some = [self.worker(one) for _ in range(6)]
        act = self.chance.randrange(6)
        if act == 0:
            return Then(Try(some[0]), Else(some[1], Try(some[2])))
        if act == 1:
            return Else(Closed(some[0]), Again(Else(some[1], some[2]), 5))
        if act == 2:
            return Again(Else(Else(Given(), Else(Alike(), ByRows())), Else(Suppose(), Else(Both(), Fix()))), 40)
        if act == 3:
            return Finder([Given(), Alike(), ByRows(), Suppose(), Both(), Fix(), First(), Second()] + some, 60)
        if act == 4:
            return Else(Each(Both(), [Try(some[0]), Try(some[1])]), some[2])
        return some[0]

    def finished(self, many):
        """Goals of which no goals were left, with the ways."""
        found = []
        for _ in range(many):
            one = self.goal(self.chance.random() < 0.5)
            goals, paper = [one], [("lent", (), (0,))]
            for _ in range(3):
                ways = []
                for left in goals:
                    try:
                        ways.append(self.joined(left).work(self.ground, left))
                    except Fails:
                        ways.append(([left], [("lent", (), (0,))]))
                paper = laid_in(paper, [(way, len(told)) for told, way in ways])
                goals = [left for told, _ in ways for left in told]
                if len(goals) > 12:
                    break
            found.append((one, goals, paper))
        return found


class TestWorkers(unittest.TestCase):
    def looked_at(self, chance, many, is_true):
        """Each way reads; what is held with nothing lent is true."""
        ended = true = 0
        for one, goals, paper in chance.finished(many):
            self.assertTrue(all(is_goal(chance.ground, left) for left in goals))
            self.assertEqual(read_paper(chance.ground, goals, paper), ("held",) + one)
            held = Kernel(chance.ground).by_paper(paper, goals)
            self.assertEqual(read_paper(chance.ground, held.lent(), held.paper()), ("held",) + one)
            for many_steps in range(1, len(held.paper())):
                self.assertEqual(read_paper(chance.ground, held.lent(), held.paper()[:many_steps])[0], "held")
            if held.lent() == []:
                ended += 1
                true += min(1, is_true(self, held.given(), held.saying()))
        return ended, true

    def test_of_open_kinds(self):
        ended, true = self.looked_at(Chance(89, LOVE, "thing", THINGS), 500, is_true_everywhere)
        self.assertGreater(ended, 50)
        self.assertGreater(true, 40)

    def test_of_numbers(self):
        def is_true(test, given, saying):
            return is_true_of_numbers(test, given, saying) if is_without_binding([given, saying]) else 0

        ended, true = self.looked_at(Chance(97, NUMBERS, "num", NUMS), 500, is_true)
        self.assertGreater(ended, 50)
        self.assertGreater(true, 12)

    def test_goals_are_no_less_than_what_they_lead_to(self):
        """Where all goals left are true at a filling, the goal is: of those without all and some."""
        chance = Chance(101, NUMBERS, "num", NUMS)
        looked_at = 0
        for _ in range(400):
            one = chance.goal(False)
            try:
                goals, _ = chance.worker(one).work(NUMBERS, one)
            except Fails:
                continue
            if goals and is_without_binding([one, goals]) and free_in([s for g in goals for s in g[0] + (g[1],)]) == free_in(one[0] + (one[1],)):
                looked_at += self.follows(one, goals)
        self.assertGreater(looked_at, 30)

    def follows(self, one, goals):
        names = free_in(one[0] + (one[1],))
        told = 0
        for data in itertools.product([num(0), num(1), num(3)], repeat=len(names)):
            filling = dict(zip(names, data))

            def is_so(goal):
                given = all([true_at(NUMBERS, saying, filling) for saying in goal[0]])
                return true_at(NUMBERS, goal[1], filling) if given else True

            try:
                if all([is_so(goal) for goal in goals]):
                    self.assertTrue(is_so(one), (one, goals, filling))
                    told = 1
            except TooFar:
                continue
        return told


class TestPapers(unittest.TestCase):
    """A paper that was forged or cut is read to what it then holds, or told wrong at its first wrong step."""

    def forged(self, chance, paper, sayings, terms):
        steps = list(paper)
        for _ in range(chance.randrange(1, 3)):
            at = chance.randrange(len(steps))
            rule, uses, told = steps[at]
            act = chance.randrange(7)
            if act == 0:
                steps[at] = (rule, tuple(chance.randrange(max(1, at)) for _ in uses), told)
            elif act == 1:
                steps[at] = (rule, uses, tuple(chance.choice(sayings + terms) if isinstance(part, tuple) else part for part in told))
            elif act == 2:
                steps[at] = (chance.choice(steps)[0], uses, told)
            elif act == 3:
                steps.insert(at, chance.choice(steps))
            elif act == 4 and len(steps) > 1:
                del steps[at]
            elif act == 5:
                steps = steps[:at + 1]
            else:
                steps[at] = (rule, uses[::-1], told)
        return steps

    def looked_at(self, chance, is_true):
        words = {"held": 0, "wrong": 0}
        for one, goals, paper in chance.finished(120):
            if goals or len(paper) > 200:
                continue
            sayings = list(one[0]) + [one[1]] + [chance.saying(2) for _ in range(3)]
            for _ in range(12):
                forged = self.forged(chance.chance, paper, sayings, chance.terms)
                told = read_paper(chance.ground, [], forged)
                words[told[0]] += 1
                if told[0] == "held":
                    held = Kernel(chance.ground).by_paper(forged, [])
                    self.assertEqual((held.given(), held.saying()), told[1:])
                    self.assertEqual(read_paper(chance.ground, [], cut(forged)), told)
                    self.assertEqual(leans(forged), [])
                    is_true(self, *told[1:])
                else:
                    self.assertLess(told[1], len(forged))
                    for many in range(1, told[1] + 1):
                        self.assertEqual(read_paper(chance.ground, [], forged[:many])[0], "held")
                    self.assertEqual(read_paper(chance.ground, [], forged[:told[1] + 1]), told)
        self.assertGreater(words["held"], 50)
        self.assertGreater(words["wrong"], 60)

    def test_of_open_kinds(self):
        self.looked_at(Chance(103, LOVE, "thing", THINGS), is_true_everywhere)

    def test_of_numbers(self):
        def is_true(test, given, saying):
            if is_without_binding([given, saying]):
                is_true_of_numbers(test, given, saying)

        self.looked_at(Chance(107, NUMBERS, "num", NUMS), is_true)


class TestRewriting(unittest.TestCase):
    def test_rest_forms_are_worth_the_same(self):
        """Rewriting goes by told equations alone: what is held of a term and its rest form is true of data."""
        sources = [("add", 0), ("add", 1), ("twice", 0), ("one", 0)]
        kernel = Kernel(NUMBERS)
        book = read_book(BOOK)
        for one in book.names():
            try:
                held_rule(NUMBERS, book.held(one))
            except ValueError:
                continue
            sources.append((book.held(one), False))
        self.assertGreater(len(sources), 5)
        rules = [rule for f in ("add", "twice", "one") for rule in work_rules(NUMBERS, f)]
        for term in NUMS + [made("add", one, other) for one, other in itertools.product(NUMS, repeat=2)]:
            held = at_rest(kernel, sources, term)
            self.assertEqual((held.given(), held.lent()), ((), []))
            self.assertGreater(is_true_of_numbers(self, (), held.saying()), 0)
            here = term
            for rewrite in to_rest(NUMBERS, rules, term):
                here = rewritten(NUMBERS, rules, here, rewrite)
            self.assertGreater(is_true_of_numbers(self, (), same(term, here)), 0)
        self.assertEqual(come_together(NUMBERS, rules), ("one",))

    def test_two_rest_forms_are_the_same_number(self):
        """Rules that are held may leave a term with two rest forms: these are the same by what is held."""
        one = ((), same(made("twice", made("one")), made("next", made("one"))))
        goals, way = Rewrite([("add", 0), ("add", 1), ("twice", 0), ("one", 0)]).work(NUMBERS, one)
        self.assertEqual(goals, [])
        held = Kernel(NUMBERS).by_paper(way, goals)
        told = come_together(NUMBERS, work_rules(NUMBERS, "twice") + [held_rule(NUMBERS, held)])
        self.assertEqual(told[:2], ("two", made("twice", made("one"))))
        self.assertGreater(is_true_of_numbers(self, (), same(told[2], told[3])), 0)
        self.assertGreater(is_true_of_numbers(self, (), same(told[1], told[3])), 0)


class TestBooks(unittest.TestCase):
    def test_what_a_book_holds_is_true(self):
        book = read_book(BOOK)
        ground = book.ground()
        kernel = Kernel(ground)
        for one in book.names():
            held = kernel.by_paper(book.held(one).paper(), [])
            terms = [num(2), A, made("add", A, num(1))]
            while held.saying()[0] == "all":
                held = kernel.by_at(held, terms.pop())
            self.assertGreater(is_true_of_numbers(self, held.given(), held.saying()), 0)


if __name__ == "__main__":
    unittest.main()
