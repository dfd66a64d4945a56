import copy
import itertools
import random
import time
import unittest

from goalsmith.errors import TooMany
from goalsmith.rows import ByRows, row_against
from tests.papersupport import A, B, C, D, GROUND, NO, OTHER, P, Q, R, S, bound, nots, same
from tests.support import ZERO, listed, made, name, num, refused
from tests.workersupport import fails, fails_of_no_goals, goal, works

X = bound(0)
ALL, SOME = ("all", "num", same(X, ZERO)), ("some", "num", ("and", same(X, ZERO), ("not", P)))
T = same(num(1), num(2))
FIVE = sorted([P, Q, R, S, T])


def both(one, other):
    return ("and", one, other)


def chain(word, sayings):
    whole = sayings[-1]
    for saying in reversed(sayings[:-1]):
        whole = (word, saying, whole)
    return whole


# Rows of truths once more, by plainer means.


def plain_atoms(goal_of):
    found = set()

    def walk(saying):
        if saying[0] in ("not", "and", "or", "so"):
            for part in saying[1:]:
                walk(part)
        elif saying != NO:
            found.add(saying)

    for saying in goal_of[0] + (goal_of[1],):
        walk(saying)
    return sorted(found)


def plain_truth(saying, row):
    if saying == NO:
        return False
    if saying[0] == "not":
        return not plain_truth(saying[1], row)
    if saying[0] == "and":
        return plain_truth(saying[1], row) and plain_truth(saying[2], row)
    if saying[0] == "or":
        return plain_truth(saying[1], row) or plain_truth(saying[2], row)
    if saying[0] == "so":
        return plain_truth(saying[2], row) if plain_truth(saying[1], row) else True
    return row[saying]


def plain_row(one):
    atoms = plain_atoms(one)
    for truths in itertools.product([True, False], repeat=len(atoms)):
        row = dict(zip(atoms, truths))
        if all(plain_truth(saying, row) for saying in one[0]) and not plain_truth(one[1], row):
            return list(zip(atoms, truths))
    return None


class RowsTest(unittest.TestCase):
    def against(self, one, *row):
        was = copy.deepcopy(one)
        told = row_against(one)
        self.assertEqual(told, list(row))
        self.assertTrue(all(truth is True or truth is False for _, truth in told))
        self.assertEqual(one, was)
        told.append(None)
        self.assertEqual(row_against(one), list(row))
        fails(self, ByRows(), one)

    def holds(self, one):
        self.assertIsNone(row_against(one))
        works(self, ByRows(), one, [])


class TestRowAgainst(RowsTest):
    def test_one_atom(self):
        self.against(goal(P), (P, False))
        self.against(goal(("not", P)), (P, True))
        self.against(goal(NO, P), (P, True))
        self.against(goal(P, ("not", P)), (P, False))
        self.holds(goal(P, P))
        self.holds(goal(("or", P, ("not", P))))

    def test_no_atoms(self):
        self.against(goal(NO))
        self.against(goal(("and", ("not", NO), NO), ("not", NO)))
        self.assertEqual(row_against(goal(NO)), [])
        self.holds(goal(("not", NO)))
        self.holds(goal(("so", NO, NO)))
        self.holds(goal(NO, NO))

    def test_the_first_row(self):
        """True ahead of False, from the first atom as sorted on."""
        self.assertEqual(sorted([P, Q, R]), [P, Q, R])
        self.against(goal(NO, ("or", P, Q)), (P, True), (Q, True))
        self.against(goal(both(P, Q)), (P, True), (Q, False))
        self.against(goal(both(Q, P)), (P, True), (Q, False))
        self.against(goal(("not", ("and", ("not", P), Q)), ("so", P, NO)), (P, False), (Q, True))
        self.against(goal(("or", P, Q), R), (P, False), (Q, False), (R, True))
        self.against(goal(("so", R, Q)), (Q, False), (R, True))
        atoms = FIVE[:4]
        for truths in itertools.product([True, False], repeat=4):
            row = list(zip(atoms, truths))
            literals = [atom if truth else ("not", atom) for atom, truth in row]
            self.against(goal(NO, *literals), *row)

    def test_atoms_are_sayings(self):
        """All and some are atoms, and what stands in them is not looked at."""
        self.against(goal(ALL), (ALL, False))
        self.against(goal(("or", ALL, SOME)), (ALL, False), (SOME, False))
        self.against(goal(P, SOME), (P, False), (SOME, True))
        self.holds(goal(SOME, SOME))
        self.holds(goal(("so", ("all", "num", ("or", same(X, X), ("not", same(X, X)))), ("all", "num", ("or", same(X, X), ("not", same(X, X)))))))
        self.against(goal(("all", "num", ("or", same(X, X), ("not", same(X, X))))), (("all", "num", ("or", same(X, X), ("not", same(X, X)))), False))
        self.against(goal(same(A, A)), (same(A, A), False))
        self.against(goal(("all", "num", NO)), (("all", "num", NO), False))

    def test_four_and_five(self):
        self.against(goal(chain("or", FIVE[:4])), *[(atom, False) for atom in FIVE[:4]])
        self.holds(goal(chain("or", FIVE[:4]), FIVE[2]))
        refused(self, TooMany, row_against, goal(chain("or", FIVE)))
        refused(self, TooMany, row_against, goal(P, *FIVE))
        refused(self, TooMany, row_against, goal(FIVE[0], *FIVE[:4], ALL))
        self.holds(goal(FIVE[0], *FIVE[:4], NO, ("not", ("not", FIVE[1]))))

    def test_of_the_goals_of_other_grounds(self):
        one = goal(same(A, ZERO), ground=OTHER)
        self.assertEqual(row_against(one), [(same(A, ZERO), False)])


class TestByRows(RowsTest):
    def test_ordinary_ones(self):
        for saying in (("so", P, P), ("or", P, ("not", P)), ("so", both(P, Q), both(Q, P)), ("so", ("not", ("not", P)), P), ("not", both(P, ("not", P))),
                       ("so", ("so", ("so", P, Q), P), P), ("so", ("not", both(P, Q)), ("or", ("not", P), ("not", Q))),
                       ("or", ("so", P, Q), ("so", Q, P)), ("so", NO, P), ("so", ("so", P, NO), ("not", P))):
            self.holds(goal(saying))
            self.holds(goal(saying, R, S))
            self.holds(goal(saying, P, NO))
            self.holds(goal(saying, saying, ("not", saying)))

    def test_of_what_is_given(self):
        self.holds(goal(Q, P, ("so", P, Q)))
        self.holds(goal(NO, P, ("not", P)))
        self.holds(goal(R, ("or", P, Q), ("so", P, R), ("so", Q, R)))
        self.holds(goal(S, NO))
        self.holds(goal(P, ("not", ("not", P)), ("not", P)))
        self.holds(goal(P, ("so", ("not", P), NO)))
        self.holds(goal(("not", P), ("or", ("not", P), NO), Q))
        self.holds(goal(both(SOME, ALL), both(ALL, both(P, SOME))))

    def test_five_atoms(self):
        """It fails, and by no other class."""
        fails(self, ByRows(), goal(FIVE[0], *FIVE))
        fails(self, ByRows(), goal(("so", chain("and", FIVE), FIVE[0])))
        fails(self, ByRows(), goal(("not", NO), *FIVE))
        self.holds(goal(FIVE[0], *FIVE[:4]))

    def test_thirty_joints(self):
        for many in (28, 29, 30):
            self.holds(goal(P, P, nots(many, Q)))
        self.holds(goal(nots(30, P), P))
        fails(self, ByRows(), goal(nots(31, P), ("not", P)))
        fails(self, ByRows(), goal(nots(32, P), P))
        fails(self, ByRows(), goal(P, P, nots(31, Q)))
        self.assertIsNone(row_against(goal(P, P, nots(31, Q))))
        self.assertIsNone(row_against(goal(nots(32, P), P)))

    def test_joints_in_all_sayings(self):
        """Joints of all sayings are counted together, each as often as it stands there; those within all and some are not."""
        half = chain("and", [P, Q] * 8)
        self.holds(goal(half, half))
        more = ("so", R, half)
        fails(self, ByRows(), goal(more, half))
        fails(self, ByRows(), goal(half, half, ("not", R)))
        self.holds(goal(half, half, NO, P, Q, R))
        within = ("all", "num", chain("and", [same(X, X)] * 20))
        self.holds(goal(half, half, within))

    def test_time(self):
        start = time.monotonic()
        wide_one = chain("or", [both(a if one else ("not", a), b) for one in (1, 0) for a, b in ((P, Q), (R, S))])
        self.holds(goal(("or", wide_one, ("not", wide_one))))
        row = chain("so", [P, Q, R, S] * 7 + [P])
        self.holds(goal(row))
        self.assertLess(time.monotonic() - start, 20)

    def test_fails(self):
        for saying in (P, ("not", P), NO, both(P, ("not", P)), ("or", P, Q), ALL, ("so", P, Q)):
            fails(self, ByRows(), goal(saying))
            fails(self, ByRows(), goal(saying, R, ("not", S)))
        fails_of_no_goals(self, ByRows())

    def test_great(self):
        large = [same(made("size", name("t", "tree")), num(at)) for at in range(30, 34)]
        self.holds(goal(("so", chain("and", large), large[0])))

    def test_all_small_ones(self):
        """Each way reads, and what a row is against fails."""
        small = [P, NO, Q]
        small += [("not", one) for one in small]
        twos = [(word, one, other) for word in ("and", "or", "so") for one, other in itertools.product(small, repeat=2)]
        held = 0
        for saying in small + twos + [("not", one) for one in twos]:
            for more in ([], [P], [("not", Q)], [("or", P, Q)], [("so", P, NO), Q]):
                one = goal(saying, *more)
                due = plain_row(one)
                if due is None:
                    self.holds(one)
                    held += 1
                else:
                    self.against(one, *due)
        self.assertGreater(held, 100)

    def test_by_chance(self):
        chance = random.Random(71)
        held = 0
        for _ in range(300):
            one = goal(self.saying(chance, 4), *[self.saying(chance, 3) for _ in range(chance.randrange(5))])
            if len(plain_atoms(one)) > 4 or repr(one).count("'not'") + sum(repr(one).count(f"'{word}'") for word in ("and", "or", "so")) > 30:
                continue
            due = plain_row(one)
            self.assertEqual(row_against(one), due)
            if due is None:
                self.holds(one)
                held += 1
            else:
                fails(self, ByRows(), one)
        self.assertGreater(held, 50)

    def saying(self, chance, deep):
        word = chance.choice(["not", "and", "or", "so", "so", "atom"] if deep else ["atom"])
        if word == "atom":
            return chance.choice([P, Q, same(C, D), same(listed(B), made("nil")), NO])
        return (word,) + tuple(self.saying(chance, deep - 1) for _ in range(1 if word == "not" else 2))

    def test_asked_again(self):
        worker = ByRows()
        rows = [(GROUND, goal(P, P)), (OTHER, goal(("so", P, P), ground=OTHER)), (GROUND, goal(Q)), (GROUND, goal(("or", Q, ("not", Q)), ALL))]
        for ground, one in rows + rows[::-1]:
            if row_against(one) is None:
                works(self, worker, one, [], ground)
            else:
                fails(self, worker, one, ground)


if __name__ == "__main__":
    unittest.main()
