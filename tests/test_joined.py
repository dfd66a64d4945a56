import random
import time
import unittest

from goalsmith.cases import ByCases
from goalsmith.errors import Fails
from goalsmith.finder import Finder
from goalsmith.grounds import Ground
from goalsmith.joined import Again, Closed, Each, Else, Then, Try
from goalsmith.plainworkers import (
    Absurd,
    Alike,
    Apart,
    Both,
    Contrary,
    Cut,
    First,
    Fix,
    Given,
    Second,
    Suppose,
)
from goalsmith.workers import Worker
from tests.papersupport import A, GROUND, NO, P, Q, R, S, bound, nots, same
from tests.support import KINDS, ZERO
from tests.workersupport import fails, fails_of_no_goals, goal, reads, state, works

X = bound(0)
ALL = ("all", "num", same(X, ZERO))


def chain(word, *sayings):
    """The sayings joined by a word, from the right."""
    whole = sayings[-1]
    for saying in reversed(sayings[:-1]):
        whole = (word, saying, whole)
    return whole


class Probe(Worker):
    """A worker that notes the goals to which it is put, and does as another one."""

    def __init__(self, one):
        self._one = one
        self.seen = []

    def work(self, ground, goal):
        self.seen.append(goal)
        return self._one.work(ground, goal)


class Steady(Probe):
    """A probe of which it is known that it tells the same of a goal each time."""

    STEADY = True


class JoinedTest(unittest.TestCase):
    def works(self, worker, one, *due, ground=GROUND):
        return works(self, worker, one, list(due), ground)

    def fails(self, worker, one, ground=GROUND):
        fails(self, worker, one, ground)


class TestThen(JoinedTest):
    def test_then(self):
        self.works(Then(Both(), Suppose()), goal(("and", ("so", P, Q), ("not", R)), S), goal(Q, P, S), goal(NO, R, S))
        self.works(Then(Suppose(), Both()), goal(("so", P, ("and", Q, R))), goal(Q, P), goal(R, P))
        self.works(Then(Both(), Both()), goal(("and", ("and", P, Q), ("and", R, S))), goal(P), goal(Q), goal(R), goal(S))

    def test_nothing_left(self):
        self.works(Then(Given(), Both()), goal(P, P))
        self.works(Then(Both(), Given()), goal(("and", P, Q), P, Q))
        self.works(Then(Alike(), Worker()), goal(same(A, A)))

    def test_fails(self):
        self.fails(Then(Both(), Given()), goal(("and", P, Q), P))
        self.fails(Then(Both(), Given()), goal(("and", P, Q), Q))
        self.fails(Then(Given(), Both()), goal(P))
        self.fails(Then(Worker(), Given()), goal(P, P))
        for worker in (Then(Given(), Given()), Then(Try(Given()), Try(Given()))):
            fails_of_no_goals(self, worker)

    def test_some_goals_twice(self):
        self.works(Then(Both(), Both()), goal(("and", ("and", P, P), ("and", P, P))), *[goal(P)] * 4)
        self.works(Then(Cut(P), Cut(P)), goal(Q), goal(P), goal(P, P), goal(P, P), goal(Q, P))

    def test_goals_on_which_the_way_does_not_lean(self):
        self.works(Then(Cut(P), Given()), goal(P, P))
        self.works(Then(ByCases(P), Try(Given())), goal(P), goal(P, ("not", P)))

    def test_long_rows(self):
        """Rows joined from the left, and some from the right."""
        worker = Suppose()
        for _ in range(600):
            worker = Then(worker, Try(Suppose()))
        told, way = worker.work(GROUND, goal(("so", P, ("so", Q, ("not", R)))))
        self.assertEqual(told, [goal(NO, P, Q, R)])
        reads(self, GROUND, goal(("so", P, ("so", Q, ("not", R)))), told, way)
        worker = Try(Fix())
        for _ in range(60):
            worker = Then(Try(Fix()), worker)
        self.works(worker, goal(ALL), goal(same(A, ZERO)))


class TestElse(JoinedTest):
    def test_else(self):
        self.works(Else(Given(), Suppose()), goal(("not", P)), goal(NO, P))
        self.works(Else(Given(), Suppose()), goal(("not", P), ("not", P)))
        self.works(Else(Suppose(), Given()), goal(("not", P), ("not", P)), goal(NO, P, ("not", P)))
        self.works(Else(Worker(), Both()), goal(("and", P, Q)), goal(P), goal(Q))

    def test_the_other_is_not_put_where_the_one_does_not_fail(self):
        probe = Probe(Given())
        self.works(Else(Suppose(), probe), goal(("not", P)), goal(NO, P))
        self.assertEqual(probe.seen, [])

    def test_fails(self):
        self.fails(Else(Given(), Both()), goal(P))
        self.fails(Else(Worker(), Worker()), goal(P))
        fails_of_no_goals(self, Else(Given(), Try(Given())))

    def test_long_rows(self):
        worker = Both()
        for _ in range(600):
            worker = Else(worker, First())
        worker = Else(worker, Given())
        self.works_long(worker, goal(P, P), [])
        self.works_long(worker, goal(("or", P, Q), P), [goal(P, P)])
        self.works_long(worker, goal(("and", P, Q), P), [goal(P, P), goal(Q, P)])
        self.fails(worker, goal(P))
        self.fails(worker, goal(NO))
        for _ in range(60):
            worker = Else(Worker(), worker)
        self.works_long(worker, goal(P, P), [])

    def works_long(self, worker, one, due):
        told, way = worker.work(GROUND, one)
        self.assertEqual(told, due)
        reads(self, GROUND, one, told, way)


class TestTry(JoinedTest):
    def test_try(self):
        self.works(Try(Given()), goal(P, P))
        self.works(Try(Given()), goal(P, Q), goal(P, Q))
        self.works(Try(Both()), goal(("and", P, Q)), goal(P), goal(Q))
        self.works(Try(Worker()), goal(NO), goal(NO))
        self.works(Try(Try(Then(Both(), Given()))), goal(("and", P, Q), P), goal(("and", P, Q), P))
        for saying in (P, NO, ALL, nots(39)):
            self.works(Try(Alike()), goal(saying, Q), goal(saying, Q))
        fails_of_no_goals(self, Try(Given()))
        fails_of_no_goals(self, Try(Worker()))


class TestEach(JoinedTest):
    def test_each(self):
        self.works(Each(Both(), [Suppose(), Both()]), goal(("and", ("not", P), ("and", Q, R)), S), goal(NO, P, S), goal(Q, S), goal(R, S))
        self.works(Each(Suppose(), [Given()]), goal(("so", P, P)))
        self.works(Each(Given(), []), goal(P, P))
        self.works(Each(Apart(0), [First(), Second()]), goal(("or", Q, R), ("or", P, S)), goal(Q, ("or", P, S), P), goal(R, ("or", P, S), S))

    def test_more_and_fewer_workers(self):
        one = goal(("and", P, Q), P, Q)
        self.works(Each(Both(), [Given(), Given()]), one)
        for many in (0, 1, 3, 60):
            self.fails(Each(Both(), [Given()] * many), one)
        self.fails(Each(Given(), [Given()]), goal(P, P))
        self.works(Each(Try(Given()), [Try(Given())]), goal(P), goal(P))
        self.fails(Each(Try(Given()), [Try(Given())]), goal(P, P))

    def test_fails(self):
        one = goal(("and", P, Q), P)
        self.fails(Each(Both(), [Given(), Given()]), one)
        self.fails(Each(Both(), [Both(), Given()]), one)
        self.fails(Each(Worker(), []), one)
        fails_of_no_goals(self, Each(Given(), []))
        fails_of_no_goals(self, Each(Try(Given()), [Try(Given())]))

    def test_list_changed_behind(self):
        workers = [Given(), Try(Given())]
        worker = Each(Both(), workers)
        one = goal(("and", P, Q), P)
        self.works(worker, one, goal(Q, P))
        workers[0] = Worker()
        workers.append(Given())
        self.works(worker, one, goal(Q, P))
        workers.clear()
        self.works(worker, one, goal(Q, P))


class TestAgain(JoinedTest):
    def test_as_long_as_it_does_not_fail(self):
        self.works(Again(Both(), 9), goal(chain("and", P, Q, R, S)), goal(P), goal(Q), goal(R), goal(S))
        self.works(Again(Both(), 9), goal(("and", ("and", P, Q), ("and", R, ("and", S, NO)))), *[goal(one) for one in (P, Q, R, S, NO)])
        self.works(Again(Suppose(), 200), goal(("so", P, ("so", Q, ("not", R)))), goal(NO, P, Q, R))
        self.works(Again(Given(), 5), goal(P, P))

    def test_where_it_fails_at_once(self):
        for most in (0, 1, 200):
            self.works(Again(Given(), most), goal(P), goal(P))
            self.works(Again(Worker(), most), goal(NO, Q), goal(NO, Q))
        fails_of_no_goals(self, Again(Given(), 5))
        fails_of_no_goals(self, Again(Given(), 0))

    def test_so_many_times(self):
        """The first goal left, with all that comes of it, ahead of the next."""
        saying = ("and", ("and", ("and", P, Q), R), ("and", Q, R))
        rows = [
            [saying],
            [("and", ("and", P, Q), R), ("and", Q, R)],
            [("and", P, Q), R, ("and", Q, R)],
            [P, Q, R, ("and", Q, R)],
            [P, Q, R, Q, R],
        ]
        for most, row in enumerate(rows + [rows[-1]] * 3):
            self.works(Again(Both(), most), goal(saying), *[goal(one) for one in row])

    def test_none_and_two_hundred(self):
        self.works(Again(Both(), 0), goal(("and", P, Q)), goal(("and", P, Q)))
        for most in (50, 199, 200):
            probe = Probe(Swing())
            told, _ = Again(probe, most).work(GROUND, goal(P))
            self.assertEqual(len(probe.seen), most)
            self.assertEqual(told, [goal(P) if most % 2 == 0 else goal(Q)])
        one = goal(chain("and", *[P] * 15), P)
        self.works(Again(Cut(P), 200), one, *Again(Cut(P), 200).work(GROUND, one)[0])

    def test_failing_ones_are_not_counted(self):
        saying = chain("and", P, ("and", Q, R), S, ("and", R, P))
        probe = Probe(Both())
        self.works(Again(probe, 4), goal(saying), goal(P), goal(Q), goal(R), goal(S), goal(("and", R, P)))
        self.works(Again(Both(), 5), goal(saying), goal(P), goal(Q), goal(R), goal(S), goal(R), goal(P))
        self.assertIn(goal(P), probe.seen)

    def test_a_worker_that_leaves_the_goal_itself(self):
        """It is put to the first goal again and again, till it was put often enough: the others stay."""
        for most in (1, 2, 7, 200):
            self.works(Again(Try(Given()), most), goal(P), goal(P))
            probe = Probe(Try(Given()))
            Again(probe, most).work(GROUND, goal(P))
            self.assertEqual(probe.seen, [goal(P)] * most)
            probe = Probe(Given())
            Again(Try(probe), most).work(GROUND, goal(P))
            self.assertEqual(probe.seen, [goal(P)] * most)
            both = Again(Else(Both(), Try(Given())), most)
            left = [goal(P), goal(Q), goal(("and", R, S))] if most > 1 else [goal(("and", P, Q)), goal(("and", R, S))]
            self.works(both, goal(("and", ("and", P, Q), ("and", R, S))), *left)
        self.works(Again(Else(Given(), Else(Both(), Try(Given()))), 6), goal(("and", P, ("and", Q, ("and", R, S))), P), goal(Q, P), goal(("and", R, S), P))

    def test_one_within_another(self):
        saying = chain("and", *[nots(at) for at in range(12)])
        for inner in range(5):
            for outer in range(5):
                for last in range(4):
                    due = plain(Row(("again", ("again", ("again", Both(), inner), outer), last)), GROUND, goal(saying))
                    self.works(Again(Again(Again(Both(), inner), outer), last), goal(saying), *due)

    def test_joined_ones_that_leave_the_goal_itself(self):
        """Where nothing comes of a goal, fifty within one another end."""
        for make in (Try, lambda one: Else(Alike(), one), lambda one: Then(one, Try(Given())), lambda one: Each(one, [Try(Given())]),
                     lambda one: Then(Try(Given()), one), lambda one: Else(one, Given())):
            worker = Again(Both(), 50)
            for _ in range(30):
                worker = Again(make(worker), 50)
            self.works(worker, goal(P), goal(P))
            worker = Again(Try(Both()), 50)
            for _ in range(30):
                worker = Again(make(worker), 50)
            self.works(worker, goal(Q, R), goal(Q, R))
        worker = Closed(Else(Alike(), Again(Given(), 3)))
        for _ in range(30):
            worker = Again(Try(Closed(worker)), 50)
        self.works(worker, goal(P), goal(P))

    def test_many_within_one_another(self):
        start = time.monotonic()
        for leaf, one, due in ((Alike(), goal(same(A, A)), []), (Given(), goal(P), [goal(P)]), (Both(), goal(("and", P, Q)), [goal(P), goal(Q)]),
                               (Try(Given()), goal(P), [goal(P)])):
            worker = leaf
            for _ in range(2000):
                worker = Again(worker, 50)
            told, way = worker.work(GROUND, one)
            self.assertEqual(told, due)
            reads(self, GROUND, one, told, way)
        self.assertLess(time.monotonic() - start, 20)


class Swing(Worker):
    """P comes of Q, and Q of P, whatever is given: a wheel that would turn for ever, of what is lent alone."""

    def work(self, ground, goal):
        given, saying = goal
        return [(given, Q if saying == P else P)], [("lent", (), (0,))]


class TestOfTheSameGoal(JoinedTest):
    """Where the same would come of a goal once more, a worker of the package isn't put to it again."""

    def seen(self, make, one, *due):
        """Put to the goal, what is made of a probe leaves what it leaves of one that is put each time; what it saw."""
        probe, steady = Probe(Worker()), Steady(Worker())
        told = make(probe).work(GROUND, one)
        self.assertEqual(make(steady).work(GROUND, one), told)
        self.assertEqual(told[0], list(due))
        reads(self, GROUND, one, *told)
        return probe.seen, steady.seen

    def put(self, worker, make):
        """What makes a worker of a probe, with the worker in it."""
        def made(probe):
            probe._one = worker
            return make(probe)
        return made

    def test_the_goal_itself(self):
        one, denied = goal(NO, P), goal(NO, P, ("not", NO))
        for most in (1, 2, 50, 200):
            often, once = self.seen(self.put(Absurd(), lambda probe: Again(probe, most)), one, one)
            self.assertEqual((often, once), ([one] * most, [one]))
        often, twice = self.seen(self.put(Contrary(), lambda probe: Again(probe, 50)), one, denied)
        self.assertEqual((often, twice), ([one] + [denied] * 49, [one, denied]))

    def test_the_first_goal(self):
        """The goal that comes first is the one out of which it came, but others come behind it."""
        one = goal(Q)
        due = [goal(P)] + [goal(P, P)] * 6 + [goal(Q, P)]
        often, twice = self.seen(self.put(Cut(P), lambda probe: Again(probe, 7)), one, *due)
        self.assertEqual((often, twice), ([one] + [goal(P)] * 6, [one, goal(P)]))
        due = [goal(Q, P)] + [goal(Q, P, ("not", P))] * 3 + [goal(Q, ("not", P))]
        often, twice = self.seen(self.put(ByCases(P), lambda probe: Again(probe, 4)), one, *due)
        self.assertEqual((often, twice), ([one] + [goal(Q, P)] * 3, [one, goal(Q, P)]))

    def test_goals_behind_one_another(self):
        one = goal(("and", P, ("and", P, ("and", Q, P))))
        parts = [goal(P), goal(P), goal(Q), goal(P)]
        often, few = self.seen(self.put(Try(Given()), lambda probe: Then(Again(Both(), 9), probe)), one, *parts)
        self.assertEqual((often, few), (parts, parts[1:]))
        often, few = self.seen(self.put(Absurd(), lambda probe: Then(Again(Both(), 9), probe)), one, *[goal(NO)] * 4)
        self.assertEqual((often, few), (parts, parts[1:]))

    def test_where_it_fails(self):
        one = goal(("and", P, ("and", P, ("not", Q))))
        often, few = self.seen(self.put(Else(Suppose(), Both()), lambda probe: Again(probe, 9)), one, goal(P), goal(P), goal(NO, Q))
        self.assertEqual(often, [one, goal(P), goal(one[1][2]), goal(P), goal(("not", Q)), goal(NO, Q)])
        self.assertEqual(few, often)
        often, few = self.seen(self.put(Both(), lambda probe: Again(Else(probe, Given()), 9)), goal(("and", P, P)), goal(P), goal(P))
        self.assertEqual((often, few), ([goal(("and", P, P)), goal(P), goal(P)], [goal(("and", P, P)), goal(P)]))

    def test_one_that_is_not_known_among_others(self):
        """It is put each time, in whatever it stands."""
        one = goal(NO)
        for make in (
            lambda probe: Then(probe, Absurd()),
            lambda probe: Then(Absurd(), probe),
            lambda probe: Else(probe, Absurd()),
            lambda probe: Else(Given(), probe),
            lambda probe: Try(probe),
            lambda probe: Each(probe, [Absurd()]),
            lambda probe: Each(Absurd(), [probe]),
            lambda probe: Try(Closed(probe)),
            lambda probe: Else(Closed(Given()), Then(Try(Then(Absurd(), probe)), Absurd())),
        ):
            often, once = self.seen(self.put(Absurd(), lambda probe: Again(make(probe), 6)), one, one)
            self.assertEqual((often, once), ([one] * 6, [one]))
        often, once = self.seen(self.put(Absurd(), lambda probe: Again(Finder([Given(), probe], 9), 6)), one, one)
        self.assertEqual(len(often), 6 * len(once))

    def test_what_finders_tell(self):
        one = goal(("or", P, Q), R)
        for workers in ([], [Absurd()], [First(), Second(), Given()], [Given(), Absurd(), Contrary()]):
            finder, other = Finder(workers, 7), Finder(workers, 7)
            due = other.work(GROUND, one)
            for again in (Again(finder, 5), Again(Then(Try(Given()), finder), 5), Then(finder, finder)):
                self.assertEqual(again.work(GROUND, one), due)
                self.assertEqual(finder.tried(), other.tried())

    def test_other_goals_between(self):
        again, then = Again(Contrary(), 9), Then(Try(Both()), Contrary())
        rows = [goal(NO), goal(P), goal(NO), goal(NO, ("not", NO)), goal(("and", P, P)), goal(("and", P, Q)), goal(P)]
        for worker, fresh in ((again, lambda: Again(Contrary(), 9)), (then, lambda: Then(Try(Both()), Contrary()))):
            for one in rows + rows[::-1]:
                self.assertEqual(worker.work(GROUND, one), fresh().work(GROUND, one))

    def test_what_is_told_is_the_askers_own(self):
        for worker in (Again(Absurd(), 9), Again(Cut(P), 9), Then(Again(Cut(P), 9), Contrary())):
            was = worker.work(GROUND, goal(NO))
            goals, way = worker.work(GROUND, goal(NO))
            goals.append(goal(Q))
            way.clear()
            self.assertEqual(worker.work(GROUND, goal(NO)), was)


class TestClosed(JoinedTest):
    def test_closed(self):
        self.works(Closed(Given()), goal(P, P))
        self.works(Closed(Then(Both(), Given())), goal(("and", P, Q), P, Q))
        self.fails(Closed(Both()), goal(("and", P, Q), P, Q))
        self.fails(Closed(Try(Given())), goal(P))
        self.fails(Closed(Given()), goal(P))
        self.works(Closed(Try(Given())), goal(P, P))
        self.works(Else(Closed(Both()), First()), goal(("or", P, Q)), goal(P))
        self.works(Try(Closed(Both())), goal(("and", P, Q)), goal(("and", P, Q)))
        fails_of_no_goals(self, Closed(Given()))


# What joined workers leave, once more, by plainer means.


class Row:
    """A joined worker told in tuples, the leaves being workers."""

    def __init__(self, tree):
        self.tree = tree

    def made(self):
        return made_of(self.tree)


def made_of(tree):
    if isinstance(tree, Worker):
        return tree
    word = tree[0]
    if word == "each":
        return Each(made_of(tree[1]), [made_of(one) for one in tree[2]])
    if word == "again":
        return Again(made_of(tree[1]), tree[2])
    return {"then": Then, "else": Else, "try": Try, "closed": Closed}[word](*[made_of(one) for one in tree[1:]])


def plain(row, ground, one):
    return plain_left(row.tree, ground, one)


def plain_left(tree, ground, one):
    """The goals left, or None where it fails."""
    if isinstance(tree, Worker):
        try:
            return tree.work(ground, one)[0]
        except Fails:
            return None
    word, first = tree[0], tree[1]
    if word == "again":
        return plain_again(first, tree[2], ground, one)
    told = plain_left(first, ground, one)
    if word == "else":
        return plain_left(tree[2], ground, one) if told is None else told
    if word == "try":
        return [one] if told is None else told
    if word == "closed":
        return told if told == [] else None
    if told is None or (word == "each" and len(told) != len(tree[2])):
        return None
    more = [plain_left(tree[2] if word == "then" else tree[2][at], ground, left) for at, left in enumerate(told)]
    return None if None in more else [left for row in more for left in row]


def plain_again(tree, most, ground, one):
    row, at, many = [one], 0, 0
    while at < len(row) and many < most:
        told = plain_left(tree, ground, row[at])
        if told is None:
            at += 1
        else:
            row[at:at + 1] = told
            many += 1
    return row


class TestByChance(JoinedTest):
    """Joined within joined ones, by chance: the goals left are those told by plainer means, and each way reads."""

    def tree(self, chance, deep):
        if deep == 0 or chance.random() < 0.2:
            return chance.choice([Given(), Both(), Suppose(), First(), Second(), Fix(), Absurd(), Contrary(), Alike(), Cut(P), ByCases(Q), Apart(0), Apart(1)])
        word = chance.choice(["then", "else", "then", "else", "try", "again", "each", "closed"])
        if word == "again":
            return (word, self.tree(chance, deep - 1), chance.choice([0, 1, 2, 3, 7]))
        if word == "each":
            return (word, self.tree(chance, deep - 1), [self.tree(chance, deep - 1) for _ in range(chance.randrange(4))])
        return (word,) + tuple(self.tree(chance, deep - 1) for _ in range(2 if word in ("then", "else") else 1))

    def saying(self, chance, deep):
        word = chance.choice(["and", "and", "or", "so", "so", "not", "all"] if deep else ["atom"])
        if word == "atom":
            return chance.choice([P, Q, R, same(A, A), NO])
        if word == "not":
            return ("not", self.saying(chance, deep - 1))
        if word == "all":
            return ("all", "num", self.saying(chance, deep - 1))
        return (word, self.saying(chance, deep - 1), self.saying(chance, deep - 1))

    def test_by_chance(self):
        chance = random.Random(61)
        done = {}
        for number in range(2500):
            tree = self.tree(chance, 4)
            row = Row(("closed", tree) if number % 5 == 0 else tree)
            one = goal(self.saying(chance, 3), *[self.saying(chance, 1) for _ in range(chance.randrange(4))])
            due = plain(row, GROUND, one)
            worker = row.made()
            if due is None:
                self.fails(worker, one)
            elif len(due) <= 60:
                told, way = worker.work(GROUND, one)
                self.assertEqual(told, due)
                reads(self, GROUND, one, told, way)
                word = row.tree[0] if isinstance(row.tree, tuple) else "leaf"
                done[word] = done.get(word, 0) + 1
        self.assertEqual(sorted(done), sorted(["then", "else", "try", "again", "each", "closed", "leaf"]))
        self.assertGreater(sum(done.values()), 400)

    def probed(self, tree):
        """The tree with a probe around each leaf: none of it is known to tell the same each time."""
        if isinstance(tree, Worker):
            return Probe(tree)
        return tuple([self.probed(one) for one in part] if isinstance(part, list) else self.probed(part) if isinstance(part, (tuple, Worker)) else part
                     for part in tree)

    def test_as_if_put_each_time(self):
        """What is told, ways too, is what is told where each worker is put each time."""
        chance = random.Random(89)
        told = 0
        for _ in range(800):
            tree = ("again", self.tree(chance, 2), chance.choice([2, 7, 20]))
            one = goal(self.saying(chance, 2), *[self.saying(chance, 1) for _ in range(chance.randrange(4))])
            due = self.told(made_of(self.probed(tree)), GROUND, one)
            self.assertEqual(self.told(made_of(tree), GROUND, one), due)
            self.assertEqual(self.told(Then(made_of(tree), Contrary()), GROUND, one), self.told(Then(made_of(self.probed(tree)), Probe(Contrary())), GROUND, one))
            told += due != ([one], [("lent", (), (0,))])
        self.assertGreater(told, 200)

    def test_several_goals_and_grounds(self):
        """A worker put to another goal, and to one of another ground, between."""
        few = Ground(KINDS[2:3], [])
        chance = random.Random(67)
        for _ in range(60):
            tree = self.tree(chance, 3)
            worker = made_of(tree)
            rows = [(ground, goal(self.saying(chance, 2), *[self.saying(chance, 1) for _ in range(2)])) for ground in (GROUND, few, GROUND, few)]
            was = state(worker)
            for ground, one in rows + rows[::-1]:
                self.assertEqual(self.told(worker, ground, one), self.told(made_of(tree), ground, one))
            self.assertEqual(state(worker), was)

    def told(self, worker, ground, one):
        try:
            return worker.work(ground, one)
        except Fails:
            return "fails"

    def test_with_a_finder(self):
        finder = Finder([Given(), Both()], 9)
        self.works(Then(finder, Cut(R)), goal(("and", P, Q), P), goal(R, P), goal(("and", P, Q), R, P))
        self.works(Then(Both(), finder), goal(("and", Q, ("and", P, P)), P), goal(Q, P))
        self.works(Each(Both(), [finder, Try(finder)]), goal(("and", P, ("and", P, P)), P))
        self.works(Closed(Again(finder, 3)), goal(("and", P, P), P))
        self.fails(Closed(Again(finder, 3)), goal(("and", P, Q), P))


if __name__ == "__main__":
    unittest.main()
