import copy
import unittest

from goalsmith.errors import NoRule
from goalsmith.kernel import Kernel
from goalsmith.reader import read_paper
from goalsmith.terms import signs_of
from tests.papersupport import (
    A,
    B,
    C,
    GROUND,
    NO,
    NO_NUMBERS,
    OTHER,
    P,
    Q,
    R,
    bound,
    given,
    nots,
    numbered,
    same,
)
from tests.support import THINGS, ZERO, Alike, depth_of, doubled, made, name, num, refused, wide

LENT = [((), P), ((P,), Q), (given(Q, R), NO)]

RULES = {
    "lent": (0, (0,)),
    "take": (0, (P,)),
    "more": (1, (P,)),
    "both": (2, ()),
    "left": (1, ()),
    "right": (1, ()),
    "first": (1, (P,)),
    "second": (1, (P,)),
    "either": (3, ()),
    "so": (1, (P,)),
    "use": (2, ()),
    "clash": (2, ()),
    "deny": (1, (P,)),
    "any": (1, (P,)),
    "back": (1, (P,)),
    "each": (1, ("z", "num")),
    "at": (1, (ZERO,)),
    "there": (1, ("num", same(bound(0), ZERO), A)),
    "name": (2, ("z",)),
    "alike": (0, (A,)),
    "put": (2, ("num", same(bound(0), A))),
    "equation": (0, (made("one"),)),
    "unlike": (1, (P,)),
    "part": (1, (0,)),
    "down": (2, ("num", same(made("first", bound(0), ZERO), bound(0)), ((), ("a",)))),
}
# For each rule what its used steps hold, so that the step is right.
PREMISES = {
    "more": [((), Q)],
    "both": [((), P), ((), Q)],
    "left": [((), ("and", P, Q))],
    "right": [((), ("and", P, Q))],
    "first": [((), Q)],
    "second": [((), Q)],
    "either": [((), ("or", P, Q)), ((P,), R), ((Q,), R)],
    "so": [((P,), Q)],
    "use": [((), ("so", P, Q)), ((), P)],
    "clash": [((), P), ((), ("not", P))],
    "deny": [((P,), NO)],
    "any": [((), NO)],
    "back": [((("not", P),), NO)],
    "each": [((), P)],
    "at": [((), ("all", "num", same(bound(0), A)))],
    "there": [((), P)],
    "name": [((), ("some", "num", same(bound(0), ZERO))), ((same(name("z"), ZERO),), R)],
    "put": [((), P), ((), same(A, A))],
    "unlike": [((), same(num(1), ZERO))],
    "part": [((), same(num(1), made("next", A)))],
    "down": [((), same(made("first", ZERO, ZERO), ZERO)), ((), same(made("first", made("next", A), ZERO), made("next", A)))],
}


def right_paper(rule):
    """A paper whose last step is a right one by the rule, with the goals lent to it."""
    many, more = RULES[rule]
    lent = PREMISES.get(rule, [((), P)])
    steps = [("lent", (), (at,)) for at in range(many)]
    return lent, steps, (rule, tuple(range(many)), more)


class ReaderTest(unittest.TestCase):
    def held(self, paper, lent, given_due, saying, ground=GROUND):
        self.assertEqual(read_paper(ground, lent, paper), ("held", given_due, saying))
        held = Kernel(ground).by_paper(paper, lent)
        self.assertEqual((held.given(), held.saying()), (given_due, saying))

    def wrong(self, paper, lent, k, ground=GROUND):
        self.assertEqual(read_paper(ground, lent, paper), ("wrong", k))
        refused(self, NoRule, Kernel(ground).by_paper, paper, lent)


class TestForms(ReaderTest):
    def test_right_ones(self):
        for rule in RULES:
            lent, steps, step = right_paper(rule)
            self.assertEqual(read_paper(GROUND, lent, steps + [step])[0], "held", rule)
        self.assertEqual(len(RULES), 25)

    def test_no_list(self):
        for thing in THINGS:
            if not isinstance(thing, list):
                self.wrong(thing, LENT, 0)
        self.wrong((("take", (), (P,)),), LENT, 0)
        self.wrong({0: ("take", (), (P,))}, LENT, 0)
        self.wrong("take", LENT, 0)
        self.wrong(Alike(), LENT, 0)

    def test_without_steps(self):
        self.wrong([], LENT, 0)
        self.wrong([], [], 0)

    def test_steps_of_anything(self):
        first = ("take", (), (P,))
        for thing in THINGS + [Alike(), list(first), first[:2], first + ((),), (first,)]:
            self.wrong([thing], LENT, 0)
            self.wrong([first, thing], LENT, 1)
            self.wrong([first, thing, first], LENT, 1)
            self.wrong([first, first, thing, thing], LENT, 2)

    def test_no_rule(self):
        for rule in THINGS + ["", "Take", "take ", "lend", "and", "same", "by_take", ("take",), ["take"], Alike()]:
            for uses in ((), (0,), (0, 0)):
                for more in ((), (P,)):
                    self.wrong([("take", (), (P,)), (rule, uses, more)], LENT, 1)

    def test_uses_of_anything(self):
        for rule in RULES:
            lent, steps, (_, uses, more) = right_paper(rule)
            at = len(steps)
            for thing in [one for one in THINGS if one != ()] + [Alike(), list(uses), "".join(map(str, uses)) or "0", None]:
                self.wrong(steps + [(rule, thing, more)], lent, at)
            if rule in ("lent", "take", "alike", "equation"):
                self.held(steps + [(rule, (), more)], lent, *read_paper(GROUND, lent, steps + [(rule, uses, more)])[1:])

    def test_each_use_of_anything(self):
        for rule, (many, more) in RULES.items():
            lent, steps, (_, uses, _) = right_paper(rule)
            for place in range(many):
                for thing in NO_NUMBERS + [many, many + 1, 10 ** 20, float(place), str(place), bool(place)]:
                    self.wrong(steps + [(rule, uses[:place] + (thing,) + uses[place + 1:], more)], lent, many)

    def test_more_or_fewer_uses(self):
        for rule, (many, more) in RULES.items():
            lent, steps, (_, uses, _) = right_paper(rule)
            steps = steps + [("take", (), (P,))]
            self.held(steps + [(rule, uses, more)], lent, *read_paper(GROUND, lent, steps + [(rule, uses, more)])[1:])
            self.wrong(steps + [(rule, uses + (0,), more)], lent, many + 1)
            self.wrong(steps + [(rule, uses + (many,), more)], lent, many + 1)
            if many:
                self.wrong(steps + [(rule, uses[:-1], more)], lent, many + 1)
                self.wrong(steps + [(rule, (), more)], lent, many + 1)

    def test_more_of_anything(self):
        for rule in RULES:
            lent, steps, (_, uses, more) = right_paper(rule)
            for thing in THINGS + [Alike(), list(more), more + (P,), more + (0,), (more,) * 4]:
                if not isinstance(thing, tuple) or len(thing) != len(more):
                    self.wrong(steps + [(rule, uses, thing)], lent, len(steps))
            if more:
                self.wrong(steps + [(rule, uses, ())], lent, len(steps))
                self.wrong(steps + [(rule, uses, more[:-1])], lent, len(steps))
                self.wrong(steps + [(rule, uses, more[1:])], lent, len(steps))

    def test_each_thing_in_brackets_of_anything(self):
        for rule in RULES:
            lent, steps, (_, uses, more) = right_paper(rule)
            for place, due in enumerate(more):
                for thing in THINGS + [Alike(), list(due) if isinstance(due, tuple) else [due]]:
                    if isinstance(thing, (str, int)) and not isinstance(thing, bool):
                        continue
                    self.wrong(steps + [(rule, uses, more[:place] + (thing,) + more[place + 1:])], lent, len(steps))

    def test_not_yet_told_steps(self):
        take = ("take", (), (P,))
        self.wrong([("both", (0, 0), ()), take], [], 0)
        self.wrong([take, ("both", (0, 1), ()), take], [], 1)
        self.wrong([take, ("both", (2, 0), ()), take], [], 1)
        self.held([take, ("both", (0, 0), ()), ("both", (1, 0), ())], [], (P,), ("and", ("and", P, P), P))


class TestLeastNumber(ReaderTest):
    def test_the_first_wrong_step_goes(self):
        take, wrong = ("take", (), (P,)), ("left", (0,), ())
        for at in range(4):
            for more in ([], [take], [wrong], [None, take]):
                self.wrong([take] * (at + 1) + [wrong] + more, [], at + 1)

    def test_a_wrong_step_that_is_not_used(self):
        self.wrong([("take", (), (P,)), ("take", (), (ZERO,)), ("so", (0,), (P,))], [], 1)

    def test_the_last_step_is_told(self):
        paper = [("take", (), (P,)), ("so", (0,), (P,)), ("alike", (), (A,))]
        self.held(paper, [], (), same(A, A))
        self.held(paper[:2], [], (), ("so", P, P))
        self.held(paper[:1], [], (P,), P)


class TestLent(ReaderTest):
    def test_lent(self):
        for at, goal in enumerate(LENT):
            self.held([("lent", (), (at,))], LENT, *goal)

    def test_no_such_number(self):
        for thing in NO_NUMBERS + [3, 4, 10 ** 30]:
            self.wrong([("lent", (), (0,)), ("lent", (), (thing,))], LENT, 1)
        self.wrong([("lent", (), (0,))], [], 0)

    def test_lent_goals_that_are_none(self):
        """What is lent and is no goal of the ground is wrong where it is used."""
        for thing in THINGS + [((), ZERO), ([], P), ((P, P), P), ((R, P), P), ((), P, P), (numbered(21)[0], P)]:
            self.wrong([("take", (), (P,)), ("lent", (), (1,))], [((), P), thing], 1)
            self.held([("take", (), (P,)), ("lent", (), (0,))], [((), P), thing], (), P)
        self.wrong([("lent", (), (0,))], [((), same(A, num(1)))], 0, OTHER.__class__([("num", [("zero", [])])], []))

    def test_another_ground(self):
        unit = ("same", ("made", "unit", ()), ("made", "unit", ()))
        self.held([("take", (), (unit,))], [], (unit,), unit, OTHER)
        self.wrong([("take", (), (unit,))], [], 0)
        self.wrong([("alike", (), (made("one"),))], [], 0, OTHER)


class TestBounds(ReaderTest):
    def saying_of(self, signs):
        """A saying that is not deep, with so many signs from 600 on."""
        left = signs - 1
        saying = same(wide(left // 2), wide(left - left // 2))
        self.assertEqual(signs_of(saying), signs)
        return saying

    def test_a_thousand_signs(self):
        for signs, right in ((999, True), (1000, True), (1001, False), (1002, False), (1500, False)):
            saying = self.saying_of(signs)
            if right:
                self.held([("take", (), (saying,))], [], (saying,), saying)
            else:
                self.wrong([("take", (), (saying,))], [], 0)
        refused(self, NoRule, Kernel(GROUND).by_take, self.saying_of(1001))
        term = wide(499)
        self.held([("alike", (), (term,))], [], (), same(term, term))
        self.wrong([("alike", (), (wide(500),))], [], 0)
        refused(self, NoRule, Kernel(GROUND).by_alike, wide(500))

    def test_sixty_deep(self):
        self.assertEqual(depth_of(nots(59)), 60)
        self.held([("take", (), (nots(59),))], [], (nots(59),), nots(59))
        self.wrong([("take", (), (nots(60),))], [], 0)
        self.held([("alike", (), (num(58),))], [], (), same(num(58), num(58)))
        self.wrong([("alike", (), (num(59),))], [], 0)
        self.held([("take", (), (NO,)), ("any", (0,), (nots(59),))], [], (NO,), nots(59))
        self.wrong([("take", (), (NO,)), ("any", (0,), (nots(60),))], [], 1)
        refused(self, NoRule, Kernel(GROUND).by_take, nots(60))

    def test_each_rule_that_puts_together(self):
        """What would be held is just not too great, then by one sign, or one deeper, too great."""
        for rule, more in (("first", (NO,)), ("second", (NO,)), ("so", (NO,)), ("both", None), ("deny", None)):
            for signs, due in ((998, "held"), (999, "held" if rule == "deny" else "wrong"), (1000, "wrong")):
                self.assertEqual(self.put_together(rule, self.saying_of(signs), more), due, (rule, signs))
            for deep, due in ((58, "held"), (59, "wrong")):
                self.assertEqual(self.put_together(rule, nots(deep), more), due, (rule, deep))

    def put_together(self, rule, saying, more):
        paper = [("take", (), (NO,)), ("any", (0,), (saying,))]
        step = {"both": (rule, (1, 0), ()), "deny": (rule, (0,), (saying,))}.get(rule, (rule, (1,), more))
        read = read_paper(GROUND, [], paper + [step])
        if read[0] == "wrong":
            self.wrong(paper + [step], [], 2)
        return read[0]

    def test_opened(self):
        body = same(bound(0), A)
        every = ("all", "num", body)
        paper = [("take", (), (every,)), ("at", (0,), (num(58),))]
        self.held(paper, [], (every,), same(num(58), A))
        self.wrong([("take", (), (every,)), ("at", (0,), (num(59),))], [], 1)
        twice = ("all", "tree", same(bound(0), bound(0)))
        self.held([("take", (), (twice,)), ("at", (0,), (wide(499),))], [], (twice,), same(wide(499), wide(499)))
        self.wrong([("take", (), (twice,)), ("at", (0,), (wide(500),))], [], 1)

    def test_bound_ones_around(self):
        self.held([("take", (), (NO,)), ("any", (0,), (nots(58),)), ("each", (1,), ("a", "num"))], [], (NO,), ("all", "num", nots(58)))
        self.wrong([("take", (), (NO,)), ("any", (0,), (nots(59),)), ("each", (1,), ("a", "num"))], [], 2)
        there = ("there", (1,), ("num", nots(58), ZERO))
        self.held([("take", (), (NO,)), ("any", (0,), (nots(58),)), there], [], (NO,), ("some", "num", nots(58)))
        there = ("there", (1,), ("num", nots(59), ZERO))
        self.wrong([("take", (), (NO,)), ("any", (0,), (nots(59),)), there], [], 2)

    def test_put(self):
        equal = same(A, num(30))
        body = same(num_over(bound(0), 27), ZERO)
        start = [("take", (), (equal,)), ("take", (), (same(num_over(A, 27), ZERO),))]
        self.held(start + [("put", (0, 1), ("num", body))], [], given(equal, start[1][2][0]), same(num(57), ZERO))
        body = same(num_over(bound(0), 29), ZERO)
        start = [("take", (), (equal,)), ("take", (), (same(num_over(A, 29), ZERO),))]
        self.wrong(start + [("put", (0, 1), ("num", body))], [], 2)

    def test_equation(self):
        term = made("twice", num(56))
        self.held([("equation", (), (term,))], [], (), same(term, made("add", num(56), num(56))))
        self.wrong([("equation", (), (made("twice", num(58)),))], [], 0)

    def test_far_too_great(self):
        """What is far too great is told at once, although its tuples, each counted once, are few."""
        for many in (9, 12, 50):
            term = doubled(many)
            saying = same(term, term)
            for rule in ("take", "first", "second", "so", "any", "unlike"):
                lent, steps, (_, uses, _) = right_paper(rule)
                self.wrong(steps + [(rule, uses, (saying,))], lent, len(steps))
            for step in (("deny", (0,), (saying,)), ("back", (0,), (saying,))):
                self.wrong([("take", (), (NO,)), step], [], 1)
            for rule in ("alike", "equation"):
                self.wrong([(rule, (), (term,))], [], 0)
            body = same(bound(0), term)
            for step in (("there", (0,), ("tree", body, made("leaf"))), ("put", (0, 0), ("tree", body))):
                self.wrong([("alike", (), (made("leaf"),)), step], [], 1)
            lent, steps, (rule, uses, (kind, _, names)) = right_paper("down")
            self.wrong(steps + [(rule, uses, (kind, saying, names))], lent, len(steps))
            self.wrong([("lent", (), (0,))], [((), saying)], 0)
            self.wrong([("lent", (), (0,))], [((saying,), P)], 0)

    def test_sixty_given(self):
        sayings = numbered(61)
        lent = [(given(*sayings[at:at + 20]), NO) for at in (0, 20, 40)]
        paper = [("lent", (), (at,)) for at in range(3)]
        paper += [("both", (0, 1), ()), ("both", (3, 2), ())]
        whole = ("and", ("and", NO, NO), NO)
        self.held(paper, lent, given(*sayings[:60]), whole)
        self.held(paper + [("more", (4,), (sayings[7],))], lent, given(*sayings[:60]), whole)
        self.wrong(paper + [("more", (4,), (sayings[60],))], lent, 5)
        self.wrong(paper + [("take", (), (sayings[60],)), ("both", (4, 5), ())], lent, 6)
        self.held(paper + [("so", (4,), (sayings[0],)), ("more", (5,), (sayings[60],))], lent, given(*sayings[1:61]),
                  ("so", sayings[0], whole))


def num_over(term, many):
    for _ in range(many):
        term = made("next", term)
    return term


class TestHandedIn(ReaderTest):
    def test_it_stays_as_it_was(self):
        for rule in RULES:
            lent, steps, step = right_paper(rule)
            paper = steps + [step]
            was = copy.deepcopy((lent, paper))
            read_paper(GROUND, lent, paper)
            Kernel(GROUND).by_paper(paper, lent)
            self.assertEqual((lent, paper), was)

    def test_asked_again(self):
        rows = [right_paper(rule) for rule in RULES]
        told = [read_paper(GROUND, lent, steps + [step]) for lent, steps, step in rows]
        for (lent, steps, step), due in reversed(list(zip(rows, told))):
            read_paper(OTHER, lent, steps + [step])
            self.assertEqual(read_paper(GROUND, lent, steps + [step]), due)

    def test_long_papers(self):
        paper = [("take", (), (P,))] + [("more", (at,), ((P, Q, R)[at % 3],)) for at in range(5000)]
        self.held(paper, [], given(P, Q, R), P)
        self.wrong(paper + [("more", (5001,), (P,))], [], 5001)


if __name__ == "__main__":
    unittest.main()
