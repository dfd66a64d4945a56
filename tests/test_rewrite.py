"""The worker that rewrites a goal's saying."""

import random
import unittest

from goalsmith.errors import Fails
from goalsmith.grounds import Ground
from goalsmith.kernel import Kernel
from goalsmith.reader import read_paper
from goalsmith.resting import Rewrite
from tests.papersupport import A, B, C, GROUND, NO, P, Q, nots, numbered, same
from tests.rulesupport import LEAF, TREES, X, Y, Z, alls, plain_to_rest, rules_of, sources_of, taken, tips
from tests.support import KINDS, WORKS, ZERO, listed, made, name, num, wide
from tests.test_resting import add, some_terms
from tests.workersupport import fails, fails_of_no_goals, goal, works

ADD = sources_of(GROUND, "add")
TWENTY = numbered(20)
ONE = made("one")


class WorkerTest(unittest.TestCase):
    def works(self, sources, one, *due, ground=GROUND, most=None):
        worker = Rewrite(sources) if most is None else Rewrite(sources, most)
        return works(self, worker, one, list(due), ground)

    def fails(self, sources, one, ground=GROUND, most=100):
        fails(self, Rewrite(sources, most), one, ground)


class TestGreatestParts(WorkerTest):
    def test_both_sides(self):
        self.works(ADD, goal(same(add(ZERO, A), add(num(1), B))), goal(same(A, made("next", B))))
        self.works([("one", 0)], goal(same(ONE, A)), goal(same(num(1), A)))
        self.works([("one", 0)], goal(same(A, made("twice", ONE))), goal(same(A, made("twice", num(1)))))

    def test_within_joints(self):
        for word in ("and", "or", "so"):
            self.works([("one", 0)], goal((word, same(ONE, A), ("not", same(ONE, ONE))), P, NO),
                       goal((word, same(num(1), A), ("not", same(num(1), num(1)))), P, NO))

    def test_within_all_and_some(self):
        for word in ("all", "some"):
            self.works(ADD, goal((word, "num", same(X, add(ZERO, A)))), goal((word, "num", same(X, A))))
            inner = ("some", "list", ("and", same(made("cons", add(ZERO, A), X), X), same(Y, add(ZERO, ZERO))))
            due = ("some", "list", ("and", same(made("cons", A, X), X), same(Y, ZERO)))
            self.works(ADD, goal((word, "num", inner), P), goal((word, "num", due), P))

    def test_beside_what_is_bound(self):
        """What stands within a term with bound ones is looked at; that term itself is not rewritten."""
        self.works(ADD, goal(("all", "num", same(add(ZERO, X), add(X, add(ZERO, A))))), goal(("all", "num", same(add(ZERO, X), add(X, A)))))
        self.fails(ADD, goal(("all", "num", same(add(ZERO, X), X))))
        self.fails(ADD, goal(("all", "num", ("all", "num", same(add(ZERO, X), add(num(1), Y))))))
        deep = made("cons", add(X, ONE), made("cons", ONE, made("cons", add(ONE, ONE), made("nil"))))
        due = made("cons", add(X, num(1)), made("cons", num(1), made("cons", num(2), made("nil"))))
        self.works(ADD + [("one", 0)], goal(("some", "num", same(deep, made("nil")))), goal(("some", "num", same(due, made("nil")))))

    def test_bound_ones_that_are_not_the_nearest(self):
        saying = alls(("so", same(add(Y, ONE), X), ("some", "num", same(add(Z, ONE), add(Y, X)))), "num", "num")
        due = alls(("so", same(add(Y, num(1)), X), ("some", "num", same(add(Z, num(1)), add(Y, X)))), "num", "num")
        self.works([("one", 0)], goal(saying), goal(due))

    def test_one_part_many_times(self):
        self.works([("one", 0)], goal(("and", same(ONE, ONE), ("all", "num", same(ONE, X)))),
                   goal(("and", same(num(1), num(1)), ("all", "num", same(num(1), X)))))

    def test_a_part_that_becomes_another(self):
        """What one part comes to is another part that is itself rewritten, or was there already."""
        lower = alls(same(made("twice", X), X), "num")
        sources = [(taken(lower, GROUND), False)]
        self.works(sources, goal(same(made("twice", A), A), lower))
        self.works(sources, goal(("or", same(made("twice", A), B), same(A, B)), lower), goal(("or", same(A, B), same(A, B)), lower))
        chain = [("one", 0), (taken(same(num(1), A), GROUND), False)]
        self.works(chain, goal(("or", same(ONE, num(1)), same(A, num(1))), same(num(1), A)), goal(("or", same(A, A), same(A, A)), same(num(1), A)))

    def test_the_greatest_are_led_as_told(self):
        """Each is led to rest from its last place on, by the first rule that fits."""
        saying = alls(same(made("twice", X), ZERO), "num")
        sources = [("twice", 0), (taken(saying, GROUND), False)]
        self.works(sources, goal(same(made("twice", B), B), saying), goal(same(add(B, B), B), saying))
        self.works(sources[::-1], goal(same(made("twice", B), B), saying), goal(same(ZERO, B), saying))


class TestLeft(WorkerTest):
    def test_none_where_alike(self):
        self.works(ADD, goal(same(add(ZERO, A), A)))
        self.works(ADD, goal(same(add(num(2), A), made("next", made("next", add(ZERO, A)))), P, NO))
        self.works(ADD + [("twice", 0)], goal(same(made("twice", num(2)), num(4)), *TWENTY))
        self.works(ADD, goal(same(add(ZERO, A), add(ZERO, A))))

    def test_alike_within_is_left(self):
        self.works(ADD, goal(("not", same(add(ZERO, A), A))), goal(("not", same(A, A))))
        self.works(ADD, goal(("all", "num", same(add(ZERO, A), A))), goal(("all", "num", same(A, A))))

    def test_given_stays(self):
        self.works(ADD, goal(same(add(ZERO, A), B), same(add(ZERO, A), C), NO), goal(same(A, B), same(add(ZERO, A), C), NO))
        self.works(ADD, goal(same(add(ZERO, A), B), same(add(ZERO, A), B)), goal(same(A, B), same(add(ZERO, A), B)))
        self.works(ADD, goal(same(add(ZERO, A), B), same(A, B)), goal(same(A, B), same(A, B)))
        self.works(ADD, goal(same(add(ZERO, A), B), *TWENTY), goal(same(A, B), *TWENTY))

    def test_no_rewrite(self):
        for saying in (NO, P, same(A, A), same(add(A, ZERO), A), ("all", "num", NO), ("not", ("and", P, Q)), same(num(3), num(3))):
            self.fails(ADD, goal(saying))
            self.fails(ADD, goal(saying, same(add(ZERO, A), A)))
            self.fails([], goal(saying))
        self.fails([], goal(same(add(ZERO, A), A)))
        fails_of_no_goals(self, Rewrite(ADD))
        fails_of_no_goals(self, Rewrite([]))


class TestMany(WorkerTest):
    def test_for_each_part_by_itself(self):
        saying = ("and", same(add(num(3), A), add(num(3), B)), ("not", same(add(num(2), A), C)))
        due = ("and", same(to_next(3, A), to_next(3, B)), ("not", same(to_next(2, A), C)))
        self.works(ADD, goal(saying), goal(due), most=4)
        self.fails(ADD, goal(saying), most=3)
        self.works(ADD, goal(("and", same(add(num(3), A), A), same(add(num(3), A), B))), goal(("and", same(to_next(3, A), A), same(to_next(3, A), B))), most=4)
        self.fails(ADD, goal(same(add(ZERO, A), A)), most=0)
        self.fails(ADD, goal(P), most=0)

    def test_a_hundred_stand_for_none_told(self):
        parts = [listed(*[add(num(19), ZERO)] * many) for many in (5, 2)]
        saying = same(*parts)
        self.works(ADD, goal(saying), goal(same(listed(*[num(19)] * 5), listed(*[num(19)] * 2))))
        more = same(listed(*[add(num(19), ZERO)] * 4 + [add(num(20), ZERO)]), made("nil"))
        self.fails(ADD, goal(more))
        fails(self, Rewrite(ADD), goal(more))
        self.works(ADD, goal(more), goal(same(listed(*[num(19)] * 4 + [num(20)]), made("nil"))), most=101)


class TestGivenWithRules(WorkerTest):
    RULE = alls(same(add(X, ZERO), X), "num")

    def sources(self):
        return [(taken(self.RULE, GROUND), False)]

    def test_what_goes_with_a_rule_used(self):
        self.works(self.sources(), goal(same(add(A, ZERO), B), self.RULE), goal(same(A, B), self.RULE))
        self.works(self.sources(), goal(same(add(A, ZERO), A), self.RULE, P, NO))
        self.fails(self.sources(), goal(same(add(A, ZERO), B)))
        self.fails(self.sources(), goal(same(add(A, ZERO), A), P, Q, NO))

    def test_what_goes_with_a_rule_that_is_not_used(self):
        self.works(self.sources() + ADD, goal(same(add(ZERO, A), B)), goal(same(A, B)))
        self.fails(self.sources() + ADD, goal(same(add(ZERO, ZERO), B)))
        self.works(ADD + self.sources(), goal(same(add(ZERO, ZERO), B)), goal(same(ZERO, B)))

    def test_several_that_are_given(self):
        kernel = Kernel(GROUND)
        held = kernel.by_more(kernel.by_more(kernel.by_equation(ONE), P), Q)
        self.works([(held, False)], goal(same(ONE, B), P, Q, NO), goal(same(num(1), B), P, Q, NO))
        self.fails([(held, False)], goal(same(ONE, B), P, NO))
        self.fails([(held, False)], goal(same(ONE, B), Q))

    def test_no_step_for_what_is_given_already(self):
        """What goes with the rules used is given from the first rewrite on, and is not put to what is given once more."""
        one, other = alls(same(add(X, ZERO), X), "num"), alls(same(made("twice", X), X), "num")
        sources = [(taken(one, GROUND), False), (taken(other, GROUND), False)]
        _, way = self.works(sources, goal(same(add(made("twice", A), ZERO), A), one, other))
        self.assertNotIn("more", [rule for rule, _, _ in way])

    def test_with_nothing_given(self):
        kernel = Kernel(GROUND)
        held = kernel.by_each(kernel.by_equation(add(ZERO, A)), "a", "num")
        self.works([(held, False)], goal(same(add(ZERO, B), C), P), goal(same(B, C), P))
        turned = kernel.by_put(kernel.by_equation(ONE), kernel.by_alike(ONE), "num", same(X, ONE))
        self.works([(turned, True)], goal(same(made("next", ONE), ZERO)), goal(same(num(2), ZERO)))
        self.fails([(turned, False)], goal(same(made("next", ONE), ZERO)))


class TestFails(WorkerTest):
    def test_sources(self):
        """A source that names a right that there isn't, even where another one would do."""
        one = goal(same(add(ZERO, A), ONE))
        for source in (("add", 2), ("add", 7), ("add", -1), ("add", True), ("add", None), ("add", "0"), ("love", 0), ("age", 0), ("zero", 0),
                       ("num", 0), ("what", 0), (None, 0), ([], 0), ((), ()), ("add",), ("add", 0, 0), "add", None, 0, [], ["add", 0]):
            self.fails([source], one)
            self.fails(ADD + [source], one)
        for saying in (P, NO, ("not", same(ONE, ZERO)), same(A, ZERO), alls(same(X, Y), "num", "num")):
            self.fails(ADD + [(taken(saying, GROUND), False)], goal(same(add(ZERO, A), ONE), saying))
        lent = Kernel(GROUND).by_lent(((), same(ONE, ZERO)))
        self.fails(ADD + [(lent, False)], one)

    def test_great(self):
        """Where a term on the way would be great, or what comes no goal."""
        a = name("a", "tree")
        dup, more, up = ([("dup", 0)], [("more", 0)], [("up", 0)])
        self.works(more, goal(same(made("more", wide(98)), a), ground=TREES),
                   goal(same(made("fork", wide(98), made("tip", wide(98))), a), ground=TREES), ground=TREES)
        self.fails(more, goal(same(made("more", wide(99)), a), ground=TREES), TREES)
        self.fails(more, goal(same(made("more", wide(120)), a), ground=TREES), TREES)
        self.fails(dup, goal(same(made("dup", wide(60)), made("dup", made("tip", wide(60)))), ground=TREES), TREES)
        self.works(up, goal(same(made("up", tips(36)), a), ground=TREES), goal(same(tips(38), a), ground=TREES), ground=TREES)
        self.fails(up, goal(same(made("up", tips(37)), a), ground=TREES), TREES)
        self.fails(up, goal(("all", "tree", ("not", same(tips(3, made("up", tips(32))), X))), ground=TREES), TREES)

    def test_what_comes_is_a_goal_or_none(self):
        """Two hundred signs and forty deep may come, one more not."""
        dup = [("dup", 0)]
        a = name("a", "tree")
        self.works(dup, goal(same(made("dup", wide(98)), made("tip", a)), ground=TREES),
                   goal(same(made("fork", wide(98), wide(98)), made("tip", a)), ground=TREES), ground=TREES)
        self.works(dup, goal(same(made("dup", wide(97)), made("tip", made("fork", a, a))), ground=TREES),
                   goal(same(made("fork", wide(97), wide(97)), made("tip", made("fork", a, a))), ground=TREES), ground=TREES)
        self.fails(dup, goal(same(made("dup", wide(98)), made("fork", a, made("tip", a))), ground=TREES), TREES)
        self.works(dup, goal(nots(36, same(made("dup", LEAF), a)), ground=TREES), goal(nots(36, same(made("fork", LEAF, LEAF), a)), ground=TREES), ground=TREES)
        up = [("up", 0)]
        self.works(up, goal(nots(36, same(made("up", LEAF), a)), ground=TREES), goal(nots(36, same(tips(2), a)), ground=TREES), ground=TREES)
        self.fails(up, goal(nots(37, same(made("up", LEAF), a)), ground=TREES), TREES)


class TestDeepInstances(WorkerTest):
    def test_many_alls(self):
        kernel = Kernel(GROUND)
        held = kernel.by_equation(made("first", B, C))
        for x in ("c", "b") + ("a",) * 36:
            held = kernel.by_each(held, x, "num")
        self.works([(held, False)], goal(same(made("first", num(34), num(35)), A)), goal(same(num(34), A)))
        self.works([(held, False)], goal(same(made("first", num(34), num(35)), num(34))))


class TestSeveral(WorkerTest):
    def test_several_goals_and_grounds(self):
        """A worker put to several goals, of several grounds, tells each time what a new one tells."""
        numbers = Ground(KINDS[2:3], [work for work in WORKS if work[0] in ("add", "one")])
        # The same names, but another right: what is held of the one ground is not held of the other.
        strange = Ground(KINDS[2:3], [("add", ["num", "num"], "num", 0, [name("xb"), name("ya")]), ("one", [], "num", None, [num(2)])])
        bare = Ground(KINDS[2:3], [])
        kernel = Kernel(GROUND)
        held = kernel.by_each(kernel.by_equation(add(num(1), A)), "a", "num")
        sources_rows = [[("one", 0)], ADD, [("add", 1), ("one", 0)], [(held, False)], [("twice", 0)], [(held, False), ("one", 0)]]
        rows = []
        for saying in (same(add(num(1), ONE), ONE), same(ONE, num(1)), same(add(num(1), A), add(A, num(1))), P, same(made("twice", A), A)):
            for ground in (GROUND, numbers, strange, bare):
                rows.append((ground, ((), saying)))
        for sources in sources_rows:
            worker = Rewrite(sources)
            for ground, one in rows + rows[::-1]:
                told = self.told(worker, ground, one)
                self.assertEqual(told, self.told(Rewrite(sources), ground, one))
                if told != Fails:
                    goals, way = told
                    self.assertEqual(read_paper(ground, goals, way), ("held",) + one)
        self.assertEqual(self.told(Rewrite([(held, False)]), strange, rows[0][1]), Fails)
        self.assertNotEqual(self.told(Rewrite([(held, False)]), numbers, rows[0][1]), Fails)

    def told(self, worker, ground, one):
        try:
            return worker.work(ground, one)
        except ValueError as error:
            return error.__class__

    def test_sources_changed_behind(self):
        sources = [("one", 0)]
        worker = Rewrite(sources)
        sources.clear()
        works(self, worker, goal(same(ONE, A)), [goal(same(num(1), A))])
        sources.append(("what", 7))
        works(self, worker, goal(same(ONE, A)), [goal(same(num(1), A))])

    def test_by_chance(self):
        chance = random.Random(31)
        saying = alls(same(add(X, ZERO), X), "num")
        sources = sources_of(GROUND, "twice", "len", "add", "one") + [(taken(saying, GROUND), False)]
        rules = rules_of(GROUND, "twice", "len", "add", "one") + [((("num",), add(X, ZERO), X))]
        done = 0
        for _ in range(120):
            one, other = some_terms(chance, 3), some_terms(chance, 2)
            (some, rest), (more, other_rest) = plain_to_rest(GROUND, rules, one), plain_to_rest(GROUND, rules, other)
            if some or more:
                due = [] if rest == other_rest else [goal(same(rest, other_rest), saying)]
                works(self, Rewrite(sources), goal(same(one, other), saying), due)
                left = goal(("all", "list", ("not", same(rest, other_rest))), saying, P)
                works(self, Rewrite(sources), goal(("all", "list", ("not", same(one, other))), saying, P), [left])
                done += 1
            else:
                fails(self, Rewrite(sources), goal(same(one, other), saying))
        self.assertGreater(done, 60)


def to_next(many, term):
    for _ in range(many):
        term = made("next", term)
    return term


if __name__ == "__main__":
    unittest.main()
