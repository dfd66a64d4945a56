import random
import unittest

from goalsmith.cases import ByCases
from goalsmith.errors import Fails
from goalsmith.finder import Finder
from goalsmith.grounds import Ground
from goalsmith.joined import Again, Closed, Else, Then, Try
from goalsmith.plainworkers import (
    Absurd,
    Alike,
    Apart,
    Both,
    Contrary,
    Cut,
    First,
    Fix,
    Given,
    Second,
    Suppose,
)
from goalsmith.workers import Worker
from tests.papersupport import A, GROUND, NO, P, Q, R, S, bound, same
from tests.support import KINDS, ZERO
from tests.workersupport import fails, fails_of_no_goals, goal, reads, works

PLAIN = [Given(), Alike(), Both(), Suppose(), First(), Second()]


class Noting(Worker):
    """Does as another worker, and notes the goals to which it is put in a list."""

    def __init__(self, one, row, word):
        self._one, self._row, self._word = one, row, word

    def work(self, ground, goal):
        self._row.append((self._word, goal))
        return self._one.work(ground, goal)


class FinderTest(unittest.TestCase):
    def finds(self, workers, most, one, tries, *due, ground=GROUND):
        """It leaves just the goals that are due, after so many tries."""
        finder = Finder(workers, most)
        self.assertEqual(finder.tried(), 0)
        works(self, finder, one, list(due), ground)
        self.assertEqual(finder.tried(), tries)
        return finder


class TestFinder(FinderTest):
    def test_no_tries(self):
        for one in (goal(P, P), goal(P), goal(("and", P, Q))):
            self.finds(PLAIN, 0, one, 0, one)

    def test_one_try(self):
        self.finds([Given()], 1, goal(P, P), 1)
        self.finds([Given()], 1, goal(P), 1, goal(P))
        self.finds([Both(), Given()], 1, goal(P, P), 1, goal(P, P))
        self.finds([Both(), Given()], 2, goal(P, P), 2)
        self.finds([Both()], 1, goal(("and", P, Q), P, Q), 1, goal(("and", P, Q), P, Q))

    def test_no_workers(self):
        for most in (0, 1, 300):
            self.finds([], most, goal(P, P), 0, goal(P, P))

    def test_in_order(self):
        row = []
        workers = [Noting(one, row, word) for word, one in enumerate([Given(), Both(), Suppose()])]
        finder = Finder(workers, 300)
        one = goal(("and", P, ("so", Q, Q)), P)
        told, _ = finder.work(GROUND, one)
        self.assertEqual(told, [])
        due = [(0, one), (1, one), (0, goal(P, P)), (0, goal(("so", Q, Q), P)), (1, goal(("so", Q, Q), P)), (2, goal(("so", Q, Q), P)), (0, goal(Q, P, Q))]
        self.assertEqual(row, due)
        self.assertEqual(finder.tried(), len(due))
        for most in range(len(due)):
            self.finds([Given(), Both(), Suppose()], most, one, most, one)
        self.finds([Given(), Both(), Suppose()], len(due), one, len(due))

    def test_going_back(self):
        """It goes back to the last taking ahead at which a worker is left untried, and all stands as it did then."""
        one = goal(("or", P, Q), Q)
        self.finds([Given(), First(), Second()], 300, one, 7)
        row = []
        workers = [Noting(each, row, word) for word, each in enumerate([Given(), First(), Second()])]
        self.assertEqual(Finder(workers, 300).work(GROUND, one)[0], [])
        self.assertEqual(row, [(0, one), (1, one), (0, goal(P, Q)), (1, goal(P, Q)), (2, goal(P, Q)), (2, one), (0, goal(Q, Q))])

    def test_going_back_over_several(self):
        one = goal(("and", ("or", P, Q), ("or", R, S)), Q, S)
        row = []
        workers = [Noting(each, row, word) for word, each in enumerate([Both(), First(), Second(), Given()])]
        told, way = Finder(workers, 300).work(GROUND, one)
        self.assertEqual(told, [])
        reads(self, GROUND, one, told, way)
        left, right = goal(("or", P, Q), Q, S), goal(("or", R, S), Q, S)
        p, q, r, s = (goal(saying, Q, S) for saying in (P, Q, R, S))
        due = [(0, one)] + [(0, left), (1, left)] + [(at, p) for at in range(4)] + [(2, left)] + [(at, q) for at in range(4)]
        due += [(0, right), (1, right)] + [(at, r) for at in range(4)] + [(2, right)] + [(at, s) for at in range(4)]
        self.assertEqual(row, due)
        self.finds([Both(), First(), Second(), Given()], 300, one, len(due))
        self.finds([Both(), First(), Second(), Given()], len(due) - 1, one, len(due) - 1, one)

    def test_going_back_where_no_worker_is_left(self):
        one = goal(("or", P, Q))
        self.finds([First()], 300, one, 2, one)
        self.finds([First(), Second()], 300, one, 6, one)
        self.finds([Given()], 300, goal(("not", P)), 1, goal(("not", P)))

    def test_one_of_those_out_of_which_it_came(self):
        """No try is made on such a goal."""
        self.finds([Try(Given())], 300, goal(P), 1, goal(P))
        self.finds([Try(Given()), Given()], 300, goal(P, P), 1)
        self.finds([Try(Both()), Given()], 300, goal(P, P), 2)
        self.finds([Cut(P)], 300, goal(P), 1, goal(P))
        self.finds([Cut(P), Given()], 300, goal(P), 2, goal(P))
        self.finds([Cut(Q)], 300, goal(P), 2, goal(P))
        row = []
        workers = [Noting(each, row, word) for word, each in enumerate([Cut(Q), Given()])]
        self.assertEqual(Finder(workers, 300).work(GROUND, goal(P))[0], [goal(P)])
        self.assertEqual(row, [(0, goal(P)), (0, goal(Q)), (1, goal(Q)), (1, goal(P))])

    def test_not_one_beside_it(self):
        """A goal like another one in the row, out of which it did not come, is taken."""
        self.finds([Both(), Given()], 300, goal(("and", P, P), P), 5)
        one = goal(("and", ("and", P, P), P), P)
        self.finds([Given(), Both()], 300, one, 7)

    def test_the_first_of_the_shortest_rows(self):
        """Where no row is without goals, the first one is it: it is of one goal."""
        for most in range(15):
            self.finds([Both(), Suppose(), Given()], most, goal(("and", ("so", P, P), Q)), min(most, 12), goal(("and", ("so", P, P), Q)))

    def test_three_hundred(self):
        wheel = [ByCases(P), ByCases(Q), ByCases(R), ByCases(S)] + [Cut(same(A, ZERO))]
        one = goal(NO)
        for most in (299, 300):
            finder = Finder(wheel, most)
            told, way = finder.work(GROUND, one)
            self.assertEqual((told, finder.tried()), ([one], most))
            reads(self, GROUND, one, told, way)

    def test_it_never_fails(self):
        for most in (0, 1, 7):
            for workers in ([], [Worker()], [Worker(), Worker()], [Closed(Both())]):
                finder = Finder(workers, most)
                works(self, finder, goal(P), [goal(P)])
        fails_of_no_goals(self, Finder([Given()], 9))
        fails_of_no_goals(self, Finder([], 0))

    def test_given_and_deep_ones(self):
        saying = P
        for at in range(12):
            saying = ("so", Q, saying) if at % 2 else ("and", saying, ("or", NO, saying)) if at < 4 else ("or", NO, saying)
        finder = Finder(PLAIN, 300)
        one = goal(saying, P)
        told, way = finder.work(GROUND, one)
        self.assertEqual(told, [])
        reads(self, GROUND, one, told, way)


class TestTried(FinderTest):
    def test_ahead_of_any_work(self):
        self.assertEqual(Finder(PLAIN, 300).tried(), 0)

    def test_of_the_last_work(self):
        finder = Finder([Given(), Both()], 300)
        finder.work(GROUND, goal(("and", P, P), P))
        self.assertEqual(finder.tried(), 4)
        finder.work(GROUND, goal(P, P))
        self.assertEqual(finder.tried(), 1)
        self.assertEqual(finder.tried(), 1)
        finder.work(GROUND, goal(Q))
        self.assertEqual(finder.tried(), 2)
        fails(self, finder, P)
        self.assertEqual(finder.tried(), 0)

    def test_by_joined_workers(self):
        finder = Finder([Given(), Both()], 300)
        Then(Both(), finder).work(GROUND, goal(("and", P, ("and", Q, Q)), P, Q))
        self.assertEqual(finder.tried(), 4)
        Else(Worker(), finder).work(GROUND, goal(P, P))
        self.assertEqual(finder.tried(), 1)
        Else(Given(), finder).work(GROUND, goal(P, P))
        self.assertEqual(finder.tried(), 1)
        Try(Closed(finder)).work(GROUND, goal(Q, P))
        self.assertEqual(finder.tried(), 2)

    def test_by_another_finder(self):
        inner = Finder([Given()], 1)
        outer = Finder([Closed(inner), Both()], 300)
        works(self, outer, goal(("and", P, P), P), [])
        self.assertEqual((outer.tried(), inner.tried()), (4, 1))
        works(self, Finder([inner, Both()], 300), goal(("and", P, P), P), [])


class TestKept(FinderTest):
    def test_list_changed_behind(self):
        workers = [Given(), Both()]
        finder = Finder(workers, 300)
        workers[0] = Worker()
        workers.pop()
        works(self, finder, goal(("and", P, P), P), [])
        workers.extend([Absurd()] * 3)
        works(self, finder, goal(("and", P, P), P), [])
        self.assertEqual(finder.tried(), 4)

    def test_several_goals_and_grounds(self):
        few = Ground(KINDS[2:3], [])
        finder = Finder(PLAIN + [Fix()], 40)
        rows = [(GROUND, goal(("and", P, P), P)), (few, goal(("all", "num", same(bound(0), bound(0))), ground=few)), (GROUND, goal(Q)),
                (few, goal(("or", P, Q), Q, ground=few)), (GROUND, goal(("so", P, ("or", Q, P))))]
        for ground, one in rows + rows[::-1]:
            told = finder.work(ground, one)
            other = Finder(PLAIN + [Fix()], 40)
            self.assertEqual(told, other.work(ground, one))
            self.assertEqual(finder.tried(), other.tried())
            reads(self, ground, one, *told)


# The finder once more, by plainer means: all that stands is written out anew at each taking.


def plain_find(workers, most, ground, first):
    """The goals left, the tries, and the rows that stood."""
    state = ([(first, ())], 0)
    waiting, tries = [], 0
    stood = [[first]]
    while True:
        row, at = state
        if not row:
            return [], tries, stood
        one, came_of = row[0]
        found = None
        if at > 0 or one not in came_of:
            while at < len(workers) and found is None:
                if tries == most:
                    return min(stood, key=len), tries, stood
                tries += 1
                try:
                    found, _ = workers[at].work(ground, one)
                except Fails:
                    pass
                at += 1
        if found is not None:
            waiting.append((row, at))
            state = ([(each, came_of + (one,)) for each in found] + row[1:], 0)
            stood.append([each for each, _ in state[0]])
            continue
        while waiting and waiting[-1][1] == len(workers):
            waiting.pop()
        if not waiting:
            return min(stood, key=len), tries, stood
        state = waiting.pop()


class TestByChance(FinderTest):
    def saying(self, chance, deep):
        word = chance.choice(["and", "or", "so", "not", "all", "atom"] if deep else ["atom"])
        if word == "atom":
            return chance.choice([P, Q, R, same(A, A), NO])
        if word == "all":
            return ("all", "num", self.saying(chance, deep - 1))
        return (word,) + tuple(self.saying(chance, deep - 1) for _ in range(1 if word == "not" else 2))

    def test_by_chance(self):
        chance = random.Random(73)
        workers = [Given(), Alike(), Both(), Suppose(), First(), Second(), Fix(), Contrary(), Absurd(), Apart(0), Apart(1), ByCases(P), Cut(Q), Try(Both()),
                   Again(Suppose(), 3), Then(Suppose(), Given())]
        ended = {True: 0, False: 0}
        for _ in range(900):
            some = chance.sample(workers, chance.randrange(1, 8))
            if chance.random() < 0.6:
                some = chance.sample(PLAIN + [Fix(), ByCases(P)], 8)
            one = goal(self.saying(chance, 3), *[self.saying(chance, 1) for _ in range(chance.randrange(3))], *chance.sample([P, Q, R], 2))
            most = chance.choice([0, 1, 5, 30, 120])
            due, tries, stood = plain_find(some, most, GROUND, one)
            finder = Finder(some, most)
            told, way = finder.work(GROUND, one)
            self.assertEqual((told, finder.tried()), (due, tries))
            self.assertEqual(len(told), min(len(row) for row in stood))
            reads(self, GROUND, one, told, way)
            ended[told == []] += 1
        self.assertGreater(ended[True], 60)
        self.assertGreater(ended[False], 60)
        fails(self, finder, None)


if __name__ == "__main__":
    unittest.main()
