"""What the tests of workers share."""

import copy

from goalsmith.errors import Fails
from goalsmith.goals import goal_of, is_goal
from goalsmith.kernel import Kernel
from goalsmith.reader import read_paper
from tests.papersupport import A, B, C, D, GROUND, NO, NO_SAYINGS, P, Q, bound, given, nots, numbered, same
from tests.support import THINGS, Alike, made, refused

# Things that are no goal of the ground.
NO_GOALS = THINGS + [
    Alike(),
    P,
    [(), P],
    ((), P, P),
    ((),),
    ([], P),
    ([P], P),
    (given(P, Q)[::-1], P),
    ((P, P), P),
    (given(*numbered(21)), P),
    ((), nots(40)),
    ((nots(40),), P),
    ((), same(made("what"), made("what"))),
    ((same(A, bound(0)),), P),
    ((), same(bound(0), bound(0))),
] + [((), thing) for thing in NO_SAYINGS[-6:]]


def goal(saying, *sayings, ground=GROUND):
    return goal_of(ground, list(sayings), saying)


def state(worker):
    """What a worker holds of what it was made of; how many tries its last work took is no such thing."""
    return {word: list(told) if isinstance(told, list) else told for word, told in vars(worker).items() if word != "_tries"}


def reads(test, ground, one, told, way):
    """What is told is a list of goals and a way that reads, with just these lent, to just the goal."""
    test.assertIsInstance(told, list)
    for left in told:
        test.assertTrue(is_goal(ground, left), left)
    test.assertEqual(read_paper(ground, told, way), ("held",) + one)


def works(test, worker, one, due, ground=GROUND):
    """Put to the goal, the worker leaves just the goals that are due, with a way back that reads to just the goal."""
    was = copy.deepcopy(one), state(worker)
    told, way = worker.work(ground, one)
    test.assertEqual(told, due)
    reads(test, ground, one, told, way)
    held = Kernel(ground).by_paper(way, told)
    test.assertEqual((held.given(), held.saying()), one)
    kept = copy.deepcopy((told, way))
    told.clear()
    way.clear()
    test.assertEqual(worker.work(ground, one), kept)
    test.assertEqual((one, state(worker)), was)
    return kept


def fails(test, worker, one, ground=GROUND):
    refused(test, Fails, worker.work, ground, one)
    refused(test, Fails, worker.work, ground, one)


def fails_of_no_goals(test, worker):
    for thing in NO_GOALS:
        fails(test, worker, thing)


SAYINGS = {
    "same": same(A, B),
    "alike": same(A, A),
    "no": NO,
    "not": ("not", P),
    "and": ("and", P, Q),
    "or": ("or", P, Q),
    "so": ("so", P, Q),
    "all": ("all", "num", same(bound(0), A)),
    "some": ("some", "num", same(bound(0), A)),
}


def fails_of_other_sayings(test, worker, *words):
    """The worker fails with each saying but those of these words, whatever is given."""
    for word, saying in SAYINGS.items():
        if word not in words:
            fails(test, worker, goal(saying))
            fails(test, worker, goal(saying, P, NO, same(C, D)))
