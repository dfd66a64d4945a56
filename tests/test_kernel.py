import copy
import unittest

from goalsmith.errors import NoRule
from goalsmith.helds import Held
from goalsmith.kernel import Kernel
from goalsmith.reader import read_paper
from tests.papersupport import A, B, C, GROUND, NO, NO_SAYINGS, OTHER, P, Q, R, S, bound, given, numbered, same
from tests.support import THINGS, ZERO, Alike, made, name, num, refused
from tests.test_reader import PREMISES, RULES

BODY = same(made("add", bound(0), ZERO), bound(0))


def contents(held):
    return held.lent(), held.given(), held.saying(), held.paper()


def put_to(kernel, rule, helds, more):
    """A kernel's rule with these held things and what stands in brackets."""
    act = getattr(kernel, f"by_{rule}")
    return act(helds, *more) if rule == "down" else act(*helds, *more)


class KernelTest(unittest.TestCase):
    def reads_to_itself(self, held, ground=GROUND):
        """Its paper, with what is lent, reads to just what it holds; no step and no goal stands twice."""
        lent, paper = held.lent(), held.paper()
        self.assertEqual(read_paper(ground, lent, paper), ("held", held.given(), held.saying()))
        for row in (lent, paper):
            for at, one in enumerate(row):
                self.assertNotIn(one, row[:at])
        used = sorted({step[2][0] for step in paper if step[0] == "lent"})
        self.assertEqual(used, list(range(len(lent))))


class TestHandedIn(KernelTest):
    def test_what_is_no_held_thing(self):
        kernel, other = Kernel(GROUND), Kernel(GROUND)
        strange = [other.by_take(P), Kernel(OTHER).by_take(NO), Held("take", (), (P,), (), P), Held("take", (), (P,), (P,), P)]
        things = THINGS + [Alike(), P, ((), P), ((P,), P), kernel, Held, ("take", (), (P,)), [kernel.by_take(P)]] + strange
        for rule, (many, more) in RULES.items():
            for place in range(many):
                helds = [kernel.by_lent(goal) for goal in PREMISES.get(rule, [])]
                put_to(kernel, rule, helds, more)
                for thing in things:
                    refused(self, NoRule, put_to, kernel, rule, helds[:place] + [thing] + helds[place + 1:], more)

    def test_of_another_kernel(self):
        for rule, (many, more) in RULES.items():
            kernel, other = Kernel(GROUND), Kernel(GROUND)
            mine = [kernel.by_lent(goal) for goal in PREMISES.get(rule, [])]
            others = [other.by_lent(goal) for goal in PREMISES.get(rule, [])]
            for place in range(many):
                refused(self, NoRule, put_to, kernel, rule, mine[:place] + [others[place]] + mine[place + 1:], more)
                refused(self, NoRule, put_to, other, rule, others[:place] + [mine[place]] + others[place + 1:], more)

    def test_forged_and_changed(self):
        kernel = Kernel(GROUND)
        held = kernel.by_take(P)
        forged = Held(held.rule, held.uses, held.told, (), NO)
        refused(self, NoRule, kernel.by_any, forged, Q)
        copied = copy.copy(held)
        refused(self, NoRule, kernel.by_more, copied, Q)

    def test_down_of_no_list(self):
        kernel = Kernel(GROUND)
        helds = [kernel.by_lent(goal) for goal in PREMISES["down"]]
        more = RULES["down"][1]
        kernel.by_down(helds, *more)
        for thing in THINGS + [tuple(helds), {0: helds[0], 1: helds[1]}, helds[0], Alike()]:
            refused(self, NoRule, kernel.by_down, thing, *more)

    def test_down_keeps_nothing_of_the_list(self):
        kernel = Kernel(GROUND)
        helds = [kernel.by_lent(goal) for goal in PREMISES["down"]]
        held = kernel.by_down(helds, *RULES["down"][1])
        was = contents(held)
        helds.reverse()
        helds.append(None)
        self.assertEqual(contents(held), was)
        helds.clear()
        self.assertEqual(contents(held), was)
        self.reads_to_itself(held)

    def test_lent_of_anything(self):
        kernel = Kernel(GROUND)
        for goal in ((), P), (given(P, Q), NO), (given(*numbered(20)), P):
            held = kernel.by_lent(goal)
            self.assertEqual(contents(held), ([goal], goal[0], goal[1], [("lent", (), (0,))]))
        for thing in THINGS + [Alike(), P, held, [(), P], ([], P), ((P,),), ((P, P), P), ((R, P), P), ((), P, P), ((), ZERO),
                               ((ZERO,), P), (given(*numbered(21)), P), ((), same(made("unit"), made("unit")))]:
            refused(self, NoRule, kernel.by_lent, thing)
        for thing in NO_SAYINGS:
            refused(self, NoRule, kernel.by_lent, ((), thing))
            refused(self, NoRule, kernel.by_lent, ((thing,), P))


class TestTold(KernelTest):
    def test_ground(self):
        self.assertIs(Kernel(GROUND).ground(), GROUND)

    def test_each_rule(self):
        for rule, (_, more) in RULES.items():
            kernel = Kernel(GROUND)
            if rule != "lent":
                held = put_to(kernel, rule, [kernel.by_lent(goal) for goal in PREMISES.get(rule, [])], more)
                self.assertIsInstance(held, Held)
                self.assertEqual(held.lent(), PREMISES.get(rule, []))
                self.assertEqual(held.paper()[-1], (rule, tuple(range(len(held.lent()))), more))
                self.reads_to_itself(held)

    def test_goals_lent_each_once(self):
        kernel = Kernel(GROUND)
        one, again, other = kernel.by_lent(((), P)), kernel.by_lent(((), P)), kernel.by_lent(((P,), P))
        held = kernel.by_both(kernel.by_both(one, again), kernel.by_both(other, one))
        self.assertEqual(sorted(held.lent()), [((), P), ((P,), P)])
        self.reads_to_itself(held)
        self.assertEqual(len(held.paper()), 5)

    def test_goals_not_leaned_on_are_not_lent(self):
        kernel = Kernel(GROUND)
        kernel.by_lent(((), Q))
        self.assertEqual(kernel.by_take(P).lent(), [])

    def test_goals_stay_lent_where_nothing_of_them_is_left(self):
        kernel = Kernel(GROUND)
        held = kernel.by_left(kernel.by_both(kernel.by_take(P), kernel.by_lent(((), Q))))
        self.assertEqual(contents(held)[:3], ([((), Q)], (P,), P))
        self.reads_to_itself(held)

    def test_no_step_twice(self):
        kernel = Kernel(GROUND)
        rows = [kernel.by_take(P) for _ in range(4)]
        held = kernel.by_both(kernel.by_both(rows[0], rows[1]), kernel.by_both(rows[2], rows[3]))
        self.assertEqual(
            held.paper(), [("take", (), (P,)), ("both", (0, 0), ()), ("both", (1, 1), ())]
        )
        self.reads_to_itself(held)

    def test_steps_alike_but_in_their_brackets(self):
        kernel = Kernel(GROUND)
        one, other = kernel.by_alike(name("a")), kernel.by_alike(name("a", "list"))
        held = kernel.by_both(one, other)
        self.assertEqual(len(held.paper()), 3)
        self.reads_to_itself(held)

    def test_deep_papers(self):
        """A paper may go down deeper than Python's calls do."""
        kernel = Kernel(GROUND)
        held = kernel.by_take(P)
        for at in range(6000):
            held = kernel.by_more(held, (P, Q, R, S)[at % 4])
        self.assertEqual(len(held.paper()), 6001)
        self.reads_to_itself(held)

    def test_wide_papers(self):
        """Where each step is used twice by the next, no step is written twice."""
        kernel = Kernel(GROUND)
        held = kernel.by_lent(((), ("so", P, P)))
        for _ in range(3):
            held = kernel.by_left(kernel.by_both(held, held))
        for _ in range(200):
            held = kernel.by_right(kernel.by_both(held, held))
        self.assertEqual(len(held.paper()), 407)
        self.reads_to_itself(held)

    def test_told_lists_are_the_askers(self):
        kernel = Kernel(GROUND)
        held = kernel.by_both(kernel.by_lent(((), P)), kernel.by_take(Q))
        was = contents(held)
        for row in (held.lent(), held.paper()):
            row.reverse()
            row.append(None)
        self.assertEqual(contents(held), was)
        held.paper().clear()
        held.lent().clear()
        self.assertEqual(contents(kernel.by_right(held))[1:3], ((Q,), Q))
        self.assertEqual(contents(held), was)

    def test_asked_again(self):
        def act(kernel):
            one, other = kernel.by_lent(((P,), Q)), kernel.by_lent(((Q,), P))
            return contents(kernel.by_both(kernel.by_both(other, one), kernel.by_so(one, P)))

        kernel = Kernel(GROUND)
        due = act(kernel)
        kernel.by_lent(((Q,), P))
        refused(self, NoRule, kernel.by_left, kernel.by_take(P))
        self.assertEqual(act(kernel), due)
        self.assertEqual(act(Kernel(GROUND)), due)


class TestHeldBySteps(KernelTest):
    def test_for_each_step_of_the_paper(self):
        """What was made twice stands in the paper once, and so does what it holds."""
        kernel = Kernel(GROUND)
        held = kernel.by_both(kernel.by_both(kernel.by_take(P), kernel.by_lent(((Q,), R))), kernel.by_both(kernel.by_take(P), kernel.by_lent(((Q,), R))))
        paper = held.paper()
        told = held.held_by_steps()
        self.assertEqual(len(paper), 4)
        self.assertEqual([("held",) + one for one in told], [read_paper(GROUND, held.lent(), paper[:at + 1]) for at in range(4)])
        told.clear()
        self.assertEqual(len(held.held_by_steps()), 4)


class TestPapers(KernelTest):
    LENT = [((), P), ((P,), Q), ((), ("and", P, Q))]

    def test_gone_through(self):
        paper = [("lent", (), (1,)), ("so", (0,), (P,)), ("lent", (), (0,)), ("use", (1, 2), ())]
        held = Kernel(GROUND).by_paper(paper, self.LENT)
        self.assertEqual((held.given(), held.saying()), ((), Q))
        self.assertEqual(sorted(held.lent()), sorted(self.LENT[:2]))
        self.reads_to_itself(held)

    def test_those_lent_on_which_the_last_step_leans(self):
        paper = [("lent", (), (0,)), ("lent", (), (2,)), ("right", (1,), ()), ("lent", (), (1,)), ("left", (1,), ())]
        held = Kernel(GROUND).by_paper(paper, self.LENT)
        self.assertEqual(contents(held), (self.LENT[2:], (), P, [("lent", (), (0,)), ("left", (0,), ())]))

    def test_the_same_goal_lent_twice(self):
        paper = [("lent", (), (0,)), ("lent", (), (1,)), ("both", (0, 1), ())]
        held = Kernel(GROUND).by_paper(paper, [((), P), ((), P)])
        self.assertEqual(contents(held), ([((), P)], (), ("and", P, P), [("lent", (), (0,)), ("both", (0, 0), ())]))

    def test_read_to_be_wrong(self):
        """A wrong step is refused although the last one does not lean on it."""
        for paper in ([], None, (), [None], [("take", (), (P,)), ("take", (), (ZERO,)), ("take", (), (Q,))],
                      [("lent", (), (3,))], [("take", (), (P,)), ("so", (1,), (P,))], tuple([("take", (), (P,))])):
            refused(self, NoRule, Kernel(GROUND).by_paper, paper, self.LENT)

    def test_made_by_this_kernel(self):
        kernel = Kernel(GROUND)
        held = kernel.by_paper([("take", (), (P,))], [])
        self.reads_to_itself(kernel.by_so(held, P))

    def test_lists_that_are_changed(self):
        paper = [("lent", (), (1,)), ("so", (0,), (P,))]
        lent = list(self.LENT)
        held = Kernel(GROUND).by_paper(paper, lent)
        was = contents(held)
        lent.clear()
        paper.clear()
        self.assertEqual(contents(held), was)
        self.reads_to_itself(held)


class TestLaid(KernelTest):
    def start(self, kernel):
        """What leans on two goals, with a held thing for each of them, in the order of the first."""
        goals = [((), P), ((P,), Q)]
        held = kernel.by_use(kernel.by_so(kernel.by_lent(goals[1]), P), kernel.by_lent(goals[0]))
        one = kernel.by_left(kernel.by_lent(((), ("and", P, R))))
        other = kernel.by_paper([("lent", (), (0,)), ("more", (0,), (P,))], [((), Q)])
        by_goal = {0: one, 1: other}
        return held, [by_goal[goals.index(goal)] for goal in held.lent()], goals

    def test_laid(self):
        kernel = Kernel(GROUND)
        held, helds, _ = self.start(kernel)
        laid = kernel.laid(held, helds)
        self.assertEqual((laid.given(), laid.saying()), ((), Q))
        self.assertEqual(sorted(laid.lent()), sorted([((), ("and", P, R)), ((), Q)]))
        self.reads_to_itself(laid)
        self.reads_to_itself(kernel.by_more(laid, S))

    def test_with_goals_lent_again(self):
        kernel = Kernel(GROUND)
        held, helds, goals = self.start(kernel)
        laid = kernel.laid(held, [kernel.by_lent(goal) for goal in held.lent()])
        self.assertEqual(contents(laid), contents(held))
        self.assertEqual(sorted(laid.lent()), sorted(goals))

    def test_goals_that_come_once(self):
        kernel = Kernel(GROUND)
        held = kernel.by_both(kernel.by_lent(((), P)), kernel.by_lent(((), Q)))
        both = kernel.by_lent(((), ("and", P, Q)))
        ends = {P: kernel.by_left(both), Q: kernel.by_right(both)}
        laid = kernel.laid(held, [ends[saying] for _, saying in held.lent()])
        self.assertEqual(laid.lent(), [((), ("and", P, Q))])
        self.assertEqual(len(laid.paper()), 4)
        self.reads_to_itself(laid)

    def test_nothing_lent(self):
        kernel = Kernel(GROUND)
        held = kernel.by_so(kernel.by_take(P), P)
        laid = kernel.laid(held, [])
        self.assertEqual(contents(laid), contents(held))
        refused(self, NoRule, kernel.laid, held, [held])

    def test_a_goal_alone(self):
        kernel = Kernel(GROUND)
        goal = ((P,), Q)
        other = kernel.by_more(kernel.by_lent(((), Q)), P)
        laid = kernel.laid(kernel.by_lent(goal), [other])
        self.assertEqual(contents(laid), contents(other))
        self.reads_to_itself(laid)

    def test_too_few_and_too_many(self):
        kernel = Kernel(GROUND)
        held, helds, _ = self.start(kernel)
        for row in ([], helds[:1], helds[1:], helds + helds[:1], helds + [held]):
            refused(self, NoRule, kernel.laid, held, row)

    def test_another_goal(self):
        kernel = Kernel(GROUND)
        held, helds, goals = self.start(kernel)
        refused(self, NoRule, kernel.laid, held, helds[::-1])
        for at in range(2):
            goal = held.lent()[at]
            less = kernel.by_paper([("take", (), (NO,)), ("so", (0,), (NO,)), ("lent", (), (0,))], [((), goal[1])])
            strange = [kernel.by_take(R), kernel.by_lent(((), ("not", goal[1]))), kernel.by_more(helds[at], R),
                       kernel.by_take(goal[1])]
            strange += [less] if goal[0] else []
            for one in strange:
                refused(self, NoRule, kernel.laid, held, helds[:at] + [one] + helds[at + 1:])

    def test_of_anything(self):
        kernel, other = Kernel(GROUND), Kernel(GROUND)
        held, helds, _ = self.start(kernel)
        strange, strange_helds, _ = self.start(other)
        for thing in THINGS + [Alike(), strange, Held("take", (), (P,), (P,), P)]:
            refused(self, NoRule, kernel.laid, thing, helds)
            refused(self, NoRule, kernel.laid, thing, [])
            if thing != []:
                refused(self, NoRule, kernel.laid, held, thing)
            refused(self, NoRule, kernel.laid, held, [thing, helds[1]])
            refused(self, NoRule, kernel.laid, held, [helds[0], thing])
        refused(self, NoRule, kernel.laid, held, strange_helds)
        refused(self, NoRule, kernel.laid, held, tuple(helds))

    def test_lists_that_are_changed(self):
        kernel = Kernel(GROUND)
        held, helds, _ = self.start(kernel)
        laid = kernel.laid(held, helds)
        was = contents(laid), contents(held)
        helds.clear()
        self.assertEqual((contents(laid), contents(held)), was)


class TestManySteps(KernelTest):
    def test_all_rules_together(self):
        """A saying proved by going down, with the rules of sames and of names."""
        kernel = Kernel(GROUND)
        ends = kernel.by_equation(made("add", ZERO, ZERO))
        next_a = made("next", A)
        step = kernel.by_equation(made("add", next_a, ZERO))
        on_a = kernel.by_take(same(made("add", A, ZERO), A))
        body = same(made("add", next_a, ZERO), made("next", bound(0)))
        step = kernel.by_put(on_a, step, "num", body)
        held = kernel.by_down([ends, step], "num", BODY, ((), ("a",)))
        self.assertEqual(contents(held)[:3], ([], (), ("all", "num", BODY)))
        at_b = kernel.by_at(held, B)
        shut = kernel.by_each(kernel.by_so(kernel.by_more(at_b, same(B, C)), same(B, C)), "c", "num")
        self.assertEqual(shut.given(), ())
        self.reads_to_itself(held)
        self.reads_to_itself(shut)


if __name__ == "__main__":
    unittest.main()
