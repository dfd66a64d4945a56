"""What the tests of papers, kernels and workers share."""

import unittest

from goalsmith.errors import NoRule
from goalsmith.grounds import Ground
from goalsmith.kernel import Kernel
from goalsmith.reader import read_paper
from tests.support import KINDS, THINGS, WORKS, XA, ZERO, made, name, num, refused

NO = ("no",)
A, B, C, D = (name(x) for x in "abcd")

# Makers of none to four parts, and a kind of six makers.
BUSH = (
    "bush",
    [
        ("dot", []),
        ("stem", ["bush"]),
        ("knot", ["num"]),
        ("twin", ["bush", "bush"]),
        ("trio", ["num", "bush", "num"]),
        ("quad", ["bush", "num", "bush", "list"]),
    ],
)
ODD_WORKS = [
    ("grow", ["num", "bush"], "bush", None, []),
    (
        "dots",
        ["num", "bush"],
        "num",
        1,
        [XA, XA, name("ya"), XA, made("add", name("ya"), name("yc")), made("dots", XA, name("yc", "bush"))],
    ),
    ("four", [], "num", None, [num(4)]),
]


def wide_ground():
    return Ground(KINDS + [BUSH], WORKS + ODD_WORKS)


GROUND = wide_ground()
OTHER = Ground([("odd", [("unit", [])]), ("num", [("zero", []), ("next", ["num"])])], [])


def bound(k):
    return ("bound", k)


def same(one, other):
    return ("same", one, other)


def nots(many, saying=NO):
    """The saying with so many nots ahead."""
    for _ in range(many):
        saying = ("not", saying)
    return saying


def given(*sayings):
    """What is given, of these sayings, each of which may stand there more than once."""
    return tuple(sorted(saying for at, saying in enumerate(sayings) if saying not in sayings[:at]))


def numbered(many):
    """So many sayings, all unlike."""
    return [same(A, num(at)) if at < 35 else same(B, num(at - 35)) for at in range(many)]


P, Q, R, S = same(A, ZERO), same(B, A), same(C, num(2)), same(D, D)

# Things that are no saying of the ground.
NO_SAYINGS = THINGS + [
    ZERO,
    A,
    same(A, name("a", "list")),
    same(ZERO, bound(0)),
    ("all", "num", same(bound(0), bound(1))),
    ("all", "what", NO),
    ("not", NO, NO),
    ("and", NO),
    ["no"],
    ("same", A, made("what")),
    ("same", name("so"), ZERO),
    ("and", NO, ["no"]),
]
# Things that are no term of the ground.
NO_TERMS = THINGS + [
    NO,
    P,
    bound(0),
    made("next", bound(0)),
    made("next"),
    made("next", made("nil")),
    made("what"),
    name("all"),
    name("a", "what"),
    ["name", "a", "num"],
]
# Things that are no name.
NO_NAMES = [thing for thing in THINGS if thing not in ("num", "zero", "name", "made")]
NO_NAMES += ["no", "so", "A", "abcdefghi", "a b", "x1"]
# Things that are no kind of the ground.
NO_KINDS = [thing for thing in THINGS if thing != "num"] + ["what", "add", "zero", "Num", ["num"]]
# Things that are no whole number from 0 on.
NO_NUMBERS = [None, True, False, -1, -7, "0", "", (0,), [0], 0.0, {}]


def lent_steps(premises):
    return [("lent", (), (at,)) for at in range(len(premises))]


def read_by(rule, premises, more):
    """What the reader tells of a step by a rule that uses these premises, lent."""
    step = (rule, tuple(range(len(premises))), more)
    return read_paper(GROUND, list(premises), lent_steps(premises) + [step])


def kernel_by(rule, premises, more):
    """What a kernel makes by a rule of these premises, lent."""
    kernel = Kernel(GROUND)
    helds = [kernel.by_lent(premise) for premise in premises]
    act = getattr(kernel, f"by_{rule}")
    return act(helds, *more) if rule == "down" else act(*helds, *more)


class RuleTest(unittest.TestCase):
    """Tests of steps, each by the reader and by the kernel."""

    def holds(self, rule, premises, more, *due):
        """The step is right, and holds just what is due."""
        self.assertEqual(read_by(rule, premises, more), ("held",) + due, (rule, premises, more))
        held = kernel_by(rule, premises, more)
        self.assertEqual((held.given(), held.saying()), due)
        self.assertEqual(read_paper(GROUND, held.lent(), held.paper()), ("held",) + due)

    def breaks(self, rule, premises, *more):
        """The step is wrong."""
        self.assertEqual(read_by(rule, premises, more), ("wrong", len(premises)), (rule, premises, more))
        refused(self, NoRule, kernel_by, rule, premises, more)
