import copy
import itertools
import random
import unittest

from goalsmith.errors import NoRewrite, NotFalling, TooFar
from goalsmith.kernel import Kernel
from goalsmith.matching import filled
from goalsmith.order import is_greater
from goalsmith.reader import read_paper
from goalsmith.reckoning import worth
from goalsmith.resting import at_rest, rewrites, rewritten, to_rest
from goalsmith.rules import held_rule
from goalsmith.terms import signs_of
from tests.papersupport import A, B, C, GROUND, NO, NO_NUMBERS, NO_TERMS, P, Q, given, numbered, same
from tests.rulesupport import (
    LEAF,
    TREES,
    X,
    Y,
    Z,
    alls,
    plain_places,
    plain_put,
    plain_rewrites,
    plain_rewritten,
    plain_to_rest,
    rules_of,
    sources_of,
    taken,
    taken_rule,
    tips,
)
from tests.support import THINGS, ZERO, Alike, depth_of, listed, made, name, num, refused, wide

ALL_WORKS = [work[0] for work in GROUND.works()]
RULES = rules_of(GROUND, "add", "twice", "one", "len", "first")
A_TREE = name("a", "tree")


def add(one, other):
    return made("add", one, other)


def some_terms(chance, deep):
    """A term of the kind num, by chance."""
    f = chance.choice(["zero", "name", "next", "add", "twice", "one", "first", "len", "add"] if deep else ["zero", "name", "one"])
    if f == "name":
        return name(chance.choice("ab"))
    if f == "len":
        return made("len", listed(*[some_terms(chance, deep - 1) for _ in range(chance.randrange(3))]))
    return made(f, *[some_terms(chance, deep - 1) for _ in range(len(GROUND.takes(f)))])


class TestRewrites(unittest.TestCase):
    def test_at_all_places(self):
        term = made("twice", add(made("one"), add(ZERO, made("one"))))
        add_zero, add_next, twice, one = RULES[:4]
        self.assertEqual(twice[1], made("twice", X))
        self.assertEqual(one, ((), made("one"), num(1)))
        self.assertEqual(rewrites(GROUND, RULES, term), [
            ((), 2, (add(made("one"), add(ZERO, made("one"))),)),
            ((0, 0), 3, ()),
            ((0, 1), 0, (made("one"),)),
            ((0, 1, 1), 3, ()),
        ])

    def test_several_rules_at_one_place(self):
        rules = [
            taken_rule(GROUND, add(X, ZERO), X, "num"),
            taken_rule(GROUND, add(X, Y), X, "num", "num"),
            taken_rule(GROUND, add(X, X), X, "num"),
            taken_rule(GROUND, add(A, X), ZERO, "num"),
            taken_rule(GROUND, add(ZERO, ZERO), ZERO),
        ]
        self.assertEqual(rules[1][1:], (add(X, Y), X))
        self.assertEqual(rewrites(GROUND, rules, add(ZERO, ZERO)), [
            ((), 0, (ZERO,)), ((), 1, (ZERO, ZERO)), ((), 2, (ZERO,)), ((), 4, ()),
        ])
        self.assertEqual(rewrites(GROUND, rules, made("next", add(A, add(A, A)))), [
            ((0,), 1, (A, add(A, A))), ((0,), 3, (add(A, A),)), ((0, 1), 1, (A, A)), ((0, 1), 2, (A,)), ((0, 1), 3, (A,)),
        ])

    def test_bound_ones_that_do_not_stand_in_the_left(self):
        rules = [taken_rule(GROUND, made("twice", Y), Y, "list", "num", "thing"), taken_rule(GROUND, made("one"), ZERO, "tree")]
        self.assertEqual(rewrites(GROUND, rules, made("twice", made("one"))), [
            ((), 0, (None, made("one"), None)), ((0,), 1, (None,)),
        ])

    def test_none(self):
        for term in (A, ZERO, num(5), made("nil"), add(A, ZERO), made("len", name("l", "list"))):
            self.assertEqual(rewrites(GROUND, RULES, term), [])
        self.assertEqual(rewrites(GROUND, [], made("one")), [])

    def test_places_sorted_as_numbers_are(self):
        bush = made("quad", made("dot"), made("one"), made("dot"), listed(made("one"), made("one")))
        told = rewrites(GROUND, RULES, bush)
        self.assertEqual([place for place, _, _ in told], [(1,), (3, 0), (3, 1, 0)])

    def test_by_chance(self):
        chance = random.Random(3)
        rules = RULES + [taken_rule(GROUND, add(X, ZERO), X, "num"), taken_rule(GROUND, add(X, X), made("next", X), "num")]
        for _ in range(400):
            term = some_terms(chance, 4)
            told = rewrites(GROUND, rules, term)
            self.assertEqual(told, plain_rewrites(GROUND, rules, term))
            self.assertEqual(told, sorted(told, key=lambda rewrite: rewrite[:2]))
            for rewrite in told:
                less = rewritten(GROUND, rules, term, rewrite)
                self.assertEqual(less, plain_rewritten(rules, term, rewrite))
                self.assertTrue(is_greater(GROUND, term, less))

    def test_handed_in_and_told_lists(self):
        rules = list(RULES)
        term = made("twice", made("one"))
        told = rewrites(GROUND, rules, term)
        due = copy.deepcopy(told)
        told.clear()
        self.assertEqual(rules, RULES)
        rewrites(GROUND, rules, add(num(3), A))
        self.assertEqual(rewrites(GROUND, rules, term), due)


class TestRewritten(unittest.TestCase):
    TERM = made("twice", add(num(1), made("one")))
    RULES = RULES + [taken_rule(GROUND, add(Y, Z), Y, "num", "num", "list")]

    def test_rewritten(self):
        for rewrite in rewrites(GROUND, self.RULES, self.TERM):
            self.assertEqual(rewritten(GROUND, self.RULES, self.TERM, rewrite), plain_rewritten(self.RULES, self.TERM, rewrite))
        rewrite = ((0,), len(RULES), (None, made("one"), num(1)))
        self.assertIn(rewrite[:2], [one[:2] for one in rewrites(GROUND, self.RULES, self.TERM)])
        self.assertEqual(rewritten(GROUND, self.RULES, self.TERM, ((0, 1), 3, ())), made("twice", add(num(1), num(1))))

    def none(self, rewrite):
        refused(self, NoRewrite, rewritten, GROUND, self.RULES, self.TERM, rewrite)

    def test_no_rewrite_of_anything(self):
        for thing in THINGS + NO_TERMS + [Alike(), self.TERM, self.RULES[0]]:
            self.none(thing)

    def test_places(self):
        for place in ((0,), (), (1,), (0, 2), (-1,), (0, -1), (0, 1, 0), (0, 1, 0, 0), (0, 0), (0, 0, 0), (7,) * 100, (10 ** 30,)):
            self.none((place, 3, ()))
        for place in THINGS + [(0, True), (False, 1), (0.0, 1), ("0", 1), [0, 1], (0, (1,)), (None,), Alike(), (Alike(), Alike())]:
            self.none((place, 3, ()))
        for place in ((0,), (1,), (2,), (0, 0), (2, 1, 0, 0)):
            refused(self, NoRewrite, rewritten, GROUND, self.RULES, A, (place, 3, ()))
            refused(self, NoRewrite, rewritten, GROUND, self.RULES, made("next", A), ((0,) + place, 3, ()))

    def test_rules(self):
        self.assertEqual(rewritten(GROUND, self.RULES, self.TERM, ((0, 1), 3, ())), made("twice", add(num(1), num(1))))
        for k in NO_NUMBERS + [0, 1, 2, 4, len(self.RULES), 10 ** 30, 3.0, Alike(), (3,)]:
            self.none(((0, 1), k, ()))
        self.none(((), 3, ()))
        refused(self, NoRewrite, rewritten, GROUND, [], self.TERM, ((0, 1), 3, ()))

    def test_parts(self):
        right = (ZERO, made("one"))
        self.assertEqual(rewritten(GROUND, self.RULES, self.TERM, ((0,), 1, right)), made("twice", made("next", add(ZERO, made("one")))))
        for parts in ((), (ZERO,), right + (None,), right + right, right[::-1], (ZERO, num(1)), (ZERO, None), (None, made("one")),
                      list(right), (ZERO, list(made("one"))), (ZERO, ("made", "one", [])), (A, made("one"))):
            self.none(((0,), 1, parts))
        for thing in THINGS + NO_TERMS + [Alike()]:
            self.none(((0,), 1, (ZERO, thing)))
            self.none(((0,), 1, (thing, made("one"))))
            self.none(((0,), 1, thing))

    def test_parts_of_none(self):
        """None stands for a bound one that does not stand in the left, and nothing else does."""
        k = len(RULES)
        for rewrite in rewrites(GROUND, self.RULES, self.TERM):
            if rewrite[1] == k:
                self.assertIsNone(rewrite[2][0])
                self.none(rewrite[:2] + ((made("nil"),) + rewrite[2][1:],))
                self.none(rewrite[:2] + ((False,) + rewrite[2][1:],))
                self.none(rewrite[:2] + ((Alike(),) + rewrite[2][1:],))
                self.none(rewrite[:2] + (rewrite[2][1:],))
                self.assertNotEqual(rewritten(GROUND, self.RULES, self.TERM, rewrite), self.TERM)

    def test_forms(self):
        right = ((0, 1), 3, ())
        for thing in (right[:2], right + ((),), list(right), right[::-1], (right,), ()):
            self.none(thing)


class TestToRest(unittest.TestCase):
    def leads(self, rules, term, ground=GROUND):
        """Each rewrite stands at the last place, and is by the first rule; just so many are let be."""
        was = copy.deepcopy((rules, term))
        due, rest = plain_to_rest(ground, rules, term)
        self.assertEqual(to_rest(ground, rules, term, 1000), due)
        self.assertEqual(to_rest(ground, rules, term, len(due)), due)
        if due:
            refused(self, TooFar, to_rest, ground, rules, term, len(due) - 1)
            refused(self, TooFar, to_rest, ground, rules, term, 0)
        here = term
        for rewrite in to_rest(ground, rules, term, len(due)):
            found = rewrites(ground, rules, here)
            self.assertEqual(rewrite[0], found[-1][0])
            self.assertEqual(rewrite[1], min(k for place, k, _ in found if place == rewrite[0]))
            here = rewritten(ground, rules, here, rewrite)
        self.assertEqual((here, rewrites(ground, rules, here)), (rest, []))
        self.assertEqual((rules, term), was)
        return here

    def test_at_rest_already(self):
        for term in (A, ZERO, num(7), add(A, B), made("nil")):
            self.assertEqual(to_rest(GROUND, RULES, term), [])
            self.assertEqual(to_rest(GROUND, RULES, term, 0), [])
        self.assertEqual(to_rest(GROUND, [], made("one")), [])

    def test_the_last_place_first(self):
        term = add(made("one"), made("twice", made("one")))
        told = to_rest(GROUND, RULES, term)
        self.assertEqual([place for place, _, _ in told[:4]], [(1, 0), (1,), (1,), (1, 0)])
        self.assertEqual(self.leads(RULES, term), num(3))
        self.assertEqual(to_rest(GROUND, RULES, made("first", made("one"), made("one")))[0][0], (1,))

    def test_the_first_rule_that_fits(self):
        one = taken_rule(GROUND, made("twice", X), X, "num")
        other = taken_rule(GROUND, made("twice", X), ZERO, "num")
        self.assertEqual(to_rest(GROUND, [one, other], made("twice", A)), [((), 0, (A,))])
        self.assertEqual(to_rest(GROUND, [other, one], made("twice", A)), [((), 0, (A,))])
        self.assertEqual(self.leads([one, other], made("twice", A)), A)
        self.assertEqual(self.leads([other, one], made("twice", A)), ZERO)

    def test_to_what_it_is_worth(self):
        """By all rights, what has no names comes to rest where it is worth."""
        rules = rules_of(GROUND, *ALL_WORKS)
        chance = random.Random(5)
        for _ in range(60):
            term = filled_names(some_terms(chance, 3))
            self.assertEqual(self.leads(rules, term), worth(GROUND, term))
        self.assertEqual(self.leads(rules, made("size", wide(9))), worth(GROUND, made("size", wide(9))))

    def test_by_chance(self):
        chance = random.Random(11)
        rules = RULES + [taken_rule(GROUND, add(X, ZERO), X, "num"), taken_rule(GROUND, add(add(X, Y), Z), add(X, add(Y, Z)), *["num"] * 3)]
        for _ in range(100):
            self.leads(rules, some_terms(chance, 3))

    def sums(self, *many):
        """A list of sums, of which each takes one rewrite more than told here."""
        return listed(*[add(num(one), ZERO) for one in many])

    def test_a_hundred(self):
        rules = rules_of(GROUND, "add")
        hundred = self.sums(*[19] * 5)
        self.assertEqual(len(to_rest(GROUND, rules, hundred)), 100)
        refused(self, TooFar, to_rest, GROUND, rules, self.sums(19, 19, 19, 19, 20))
        self.assertEqual(len(to_rest(GROUND, rules, self.sums(19, 19, 19, 19, 20), 101)), 101)
        self.assertEqual(len(to_rest(GROUND, rules, self.sums(19, 19, 19, 19, 18))), 99)

    def test_two_hundred_signs(self):
        """A term of two hundred signs may come, a greater one may not."""
        dup, more = rules_of(TREES, "dup", "more")
        self.assertEqual(signs_of(self.leads([more], made("more", wide(99)), TREES)), 200)
        refused(self, TooFar, to_rest, TREES, [dup], made("dup", wide(100)))
        self.assertEqual(signs_of(self.leads([dup], made("dup", wide(99)), TREES)), 199)
        refused(self, TooFar, to_rest, TREES, [more], made("more", wide(100)))
        refused(self, TooFar, to_rest, TREES, [dup, more], made("tip", made("more", wide(99))))
        refused(self, TooFar, to_rest, TREES, [dup], made("dup", made("dup", made("dup", wide(30)))), 10)

    def test_forty_deep(self):
        rules = rules_of(TREES, "up")
        self.assertEqual(depth_of(self.leads(rules, made("up", tips(37)), TREES)), 40)
        refused(self, TooFar, to_rest, TREES, rules, made("up", tips(38)))
        refused(self, TooFar, to_rest, TREES, rules, made("tip", made("up", tips(37))))

    def test_great_between(self):
        """What is great on the way is refused, also where the rest form would not be."""
        rules = rules_of(TREES, "dup") + [taken_rule(TREES, made("fork", X, Y), LEAF, "tree", "tree")]
        term = made("dup", tips(37, made("dup", LEAF)))
        self.assertEqual(self.leads(rules, term, TREES), LEAF)
        long = made("dup", made("tip", name("a", "tree")))
        self.assertEqual(self.leads(rules, long, TREES), LEAF)
        wide_one = wide_tips(101)
        refused(self, TooFar, to_rest, TREES, rules, made("dup", wide_one))

    def test_what_is_handed_in_may_be_great(self):
        rules = rules_of(GROUND, "first")
        great = made("size", wide(900))
        self.assertEqual(to_rest(GROUND, rules, made("first", A, great)), [((), 0, (A, great))])
        self.assertEqual(to_rest(TREES, rules_of(TREES, "dup"), wide(900)), [])
        refused(self, TooFar, to_rest, GROUND, rules_of(GROUND, "one"), add(made("one"), great))

    def test_told_lists(self):
        told = to_rest(GROUND, RULES, made("twice", num(2)))
        due = copy.deepcopy(told)
        told.clear()
        to_rest(GROUND, RULES, add(num(1), num(1)))
        self.assertEqual(to_rest(GROUND, RULES, made("twice", num(2))), due)


def wide_tips(signs):
    """A tree of so many signs, of tips and a name, which no rule for forks rewrites."""
    return tips(signs - 1, A_TREE)


def filled_names(term):
    """The term with numbers for its names."""
    if term[0] == "name":
        return num(1) if term[1] == "a" else num(2)
    return ("made", term[1], tuple(filled_names(part) for part in term[2]))


class RestTest(unittest.TestCase):
    def holds(self, sources, term, rest, *due, ground=GROUND, most=100):
        """What is held says that the term and its rest form are the same, with nothing lent, given just what is due."""
        was = list(sources), copy.deepcopy(term)
        kernel = Kernel(ground)
        held = at_rest(kernel, sources, term, most)
        self.assertEqual((held.given(), held.saying()), (given(*due), same(term, rest)))
        self.assertEqual(held.lent(), [])
        self.assertEqual(read_paper(ground, [], held.paper()), ("held", given(*due), same(term, rest)))
        # The kernel itself made it.
        self.assertEqual(kernel.by_more(held, NO).saying(), held.saying())
        self.assertEqual((list(sources), term), was)
        return held


class TestAtRest(RestTest):
    def test_at_rest_already(self):
        for term in (A, ZERO, num(4), add(A, B), listed(A)):
            held = self.holds(sources_of(GROUND, "add", "one"), term, term)
            self.assertEqual(held.paper(), [("alike", (), (term,))])
        self.holds([], made("one"), made("one"))

    def test_by_works(self):
        self.holds(sources_of(GROUND, "add"), add(num(2), A), made("next", made("next", A)))
        self.holds(sources_of(GROUND, "add", "twice", "one"), made("twice", made("one")), num(2))
        self.holds([("add", 1)], add(num(2), A), made("next", made("next", add(ZERO, A))))
        self.holds([("add", 0)], add(num(2), add(ZERO, A)), add(num(2), A))
        self.holds(sources_of(GROUND, "pick"), made("pick", name("t", "thing"), num(2), name("u", "thing")), name("u", "thing"))
        self.holds([("dots", 5)], made("dots", A, made("quad", made("dot"), B, made("dot"), made("nil"))), made("dots", A, made("dot")))

    def test_worths(self):
        sources = sources_of(GROUND, *ALL_WORKS)
        chance = random.Random(17)
        for _ in range(25):
            term = filled_names(some_terms(chance, 3))
            self.holds(sources, term, worth(GROUND, term))

    def assoc(self):
        return alls(same(add(add(Z, Y), X), add(Z, add(Y, X))), "num", "num", "num")

    def test_by_held_things(self):
        saying = self.assoc()
        held = taken(saying, GROUND)
        self.holds([(held, False)], add(add(A, B), C), add(A, add(B, C)), saying)
        self.holds([(held, False)], add(add(add(A, B), C), A), add(A, add(B, add(C, A))), saying)
        self.holds([(held, False)], listed(add(add(A, B), add(B, A)), C), listed(add(A, add(B, add(B, A))), C), saying)

    def test_parts_in_their_places(self):
        """What stands for each bound one comes to stand where the alls say."""
        saying = alls(same(made("dots", Z, made("trio", Y, X, Y)), add(Y, Z)), "num", "num", "bush")
        held = taken(saying, GROUND)
        term = made("dots", num(1), made("trio", A, made("dot"), A))
        self.holds([(held, False)], term, add(A, num(1)), saying)
        self.holds([(held, False)], made("dots", num(1), made("trio", A, made("dot"), B)), made("dots", num(1), made("trio", A, made("dot"), B)))

    def test_names_in_the_parts(self):
        """Names that stand in what is put for a bound one are not taken for others."""
        saying = alls(same(made("first", Y, X), Y), "num", "num")
        held = taken(saying, GROUND)
        for one, other in itertools.permutations([A, B, C, add(A, B), add(B, C), num(2)], 2):
            self.holds([(held, False)], made("first", one, other), one, saying)
        free = alls(same(add(add(A, Y), X), made("next", add(Y, X))), "num", "num")
        for one, other in itertools.permutations([A, B, C, num(1), made("twice", A)], 2):
            self.holds([(taken(free, GROUND), False)], add(add(A, one), other), made("next", add(one, other)), free)

    def test_turned(self):
        saying = alls(same(X, add(X, ZERO)), "num")
        held = taken(saying, GROUND)
        self.holds([(held, True)], made("next", add(A, ZERO)), made("next", A), saying)
        self.holds([(held, True)], add(add(A, ZERO), ZERO), A, saying)
        saying = alls(same(made("next", add(Y, X)), add(Y, made("next", X))), "num", "num")
        self.holds([(taken(saying, GROUND), True)], add(A, num(2)), made("next", made("next", add(A, ZERO))), saying)
        refused(self, NotFalling, at_rest, Kernel(GROUND), [(held, False)], add(A, ZERO))

    def test_without_an_all(self):
        saying = same(add(A, B), C)
        self.holds([(taken(saying, GROUND), False)], made("next", add(A, B)), made("next", C), saying)
        self.holds([(taken(same(C, add(A, B)), GROUND), True)], add(add(A, B), B), add(C, B), same(C, add(A, B)))

    def test_bound_ones_that_stand_nowhere(self):
        saying = alls(same(made("twice", Y), Y), "list", "num", "thing")
        self.holds([(taken(saying, GROUND), False)], made("twice", made("twice", A)), A, saying)
        for x in "abc":
            saying = alls(same(made("twice", name(x)), name(x)), "num")
            self.holds([(taken(saying, GROUND), False)], made("twice", name(x)), name(x), saying)

    def test_given_just_what_goes_with_the_rules_used(self):
        one, other = alls(same(add(X, ZERO), X), "num"), same(made("twice", A), B)
        used, unused = taken(one, GROUND), taken(other, GROUND)
        self.holds([(used, False), (unused, False)], add(B, ZERO), B, one)
        self.holds([(unused, False), (used, False)], add(made("twice", A), ZERO), B, one, other)
        self.holds([(unused, False), (used, False), ("one", 0)], made("one"), num(1))
        kernel = Kernel(GROUND)
        more = kernel.by_more(kernel.by_more(kernel.by_equation(made("one")), P), Q)
        self.holds([(more, False)], made("twice", made("one")), made("twice", num(1)), P, Q)
        self.holds([(more, False)], made("twice", A), made("twice", A))
        first = ("one", 0)
        self.holds([first, (more, False)], made("one"), num(1))

    def test_more_given_than_may_be(self):
        """At most sixty sayings are given at a step: where more go with the rules used, it is refused."""
        kernel = Kernel(GROUND)
        ones = numbered(61)

        def with_given(sayings):
            held = kernel.by_equation(made("one"))
            for saying in sayings:
                held = kernel.by_more(held, saying)
            return held

        twice = kernel.by_each(kernel.by_equation(made("twice", A)), "a", "num")
        for saying in ones[30:60]:
            twice = kernel.by_more(twice, saying)
        term = made("twice", made("one"))
        held = at_rest(kernel, [(with_given(ones[:30]), False), (twice, False)], term)
        self.assertEqual((held.given(), held.saying()), (given(*ones[:60]), same(term, made("add", num(1), num(1)))))
        self.assertEqual(read_paper(GROUND, [], held.paper()), ("held", held.given(), held.saying()))
        refused(self, TooFar, at_rest, kernel, [(with_given(ones[:30] + ones[60:]), False), (twice, False)], term)

    def test_what_is_held_of_other_kernels(self):
        kernel = Kernel(GROUND)
        held = kernel.by_each(kernel.by_equation(add(ZERO, A)), "a", "num")
        self.assertEqual(at_rest(kernel, [(held, False)], add(ZERO, B)).saying(), same(add(ZERO, B), B))
        self.holds([(held, False)], add(ZERO, add(ZERO, B)), B)

    def test_so_many(self):
        sources = sources_of(GROUND, "add")
        self.holds(sources, add(num(5), A), to_sum(5, A), most=6)
        refused(self, TooFar, at_rest, Kernel(GROUND), sources, add(num(5), A), 5)
        hundred = listed(*[add(num(19), ZERO)] * 5)
        self.holds(sources, hundred, listed(*[num(19)] * 5))
        self.assertEqual(at_rest(Kernel(GROUND), sources, hundred).saying(), same(hundred, listed(*[num(19)] * 5)))
        refused(self, TooFar, at_rest, Kernel(GROUND), sources, listed(*[add(num(19), ZERO)] * 4 + [add(num(20), ZERO)]))

    def test_great(self):
        self.holds([("more", 0)], made("more", wide(99)), made("fork", wide(99), made("tip", wide(99))), ground=TREES)
        self.holds([("up", 0)], made("up", tips(37)), tips(39), ground=TREES)
        refused(self, TooFar, at_rest, Kernel(TREES), [("more", 0)], made("more", wide(100)))
        refused(self, TooFar, at_rest, Kernel(TREES), [("dup", 0)], made("dup", wide(100)))
        refused(self, TooFar, at_rest, Kernel(TREES), [("up", 0)], made("up", tips(38)))

    def test_of_what_is_great(self):
        """A great term may be handed in: what is held of it is not too great, or it is refused."""
        saying = alls(same(made("first", Y, X), Y), "num", "num")
        held = taken(saying, GROUND)
        for signs in (250, 494, 495, 496, 497, 498, 700, 990, 994):
            term = made("first", A, made("size", wide(signs)))
            self.holds([("first", 0)], term, A)
            self.holds([(held, False)], term, A, saying)
            if signs < 900:
                self.holds([("first", 0), ("one", 0)], made("next", made("first", made("one"), term)), num(2))
        refused(self, TooFar, at_rest, Kernel(GROUND), [("first", 0)], made("next", made("first", num(3), made("size", wide(994)))))
        for signs in (250, 498, 499):
            self.holds([], wide(signs), wide(signs), ground=TREES)
        for signs in (500, 700, 1000):
            refused(self, TooFar, at_rest, Kernel(TREES), [], wide(signs))
        self.holds([], tips(58), tips(58), ground=TREES)
        self.holds([("first", 0)], made("next", made("first", A, num(56))), made("next", A))

    def test_deep_terms_and_many_alls(self):
        """No step between is too great, where a held thing says something of many, and the terms are deep."""
        kinds = ["tree"] * 40
        saying = alls(same(made("fork", bound_at(39), bound_at(0)), bound_at(0)), *kinds)
        held = taken(saying, TREES)
        self.holds([(held, False)], made("fork", tips(38), tips(37)), tips(37), saying, ground=TREES)
        row = LEAF
        for at in range(17):
            row = made("fork", bound_at(at), row)
        saying = alls(same(made("flip", row), LEAF), *kinds[:17])
        term = LEAF
        for at in range(17):
            term = made("fork", tips(21 - at), term)
        self.holds([(taken(saying, TREES), False)], made("flip", term), LEAF, saying, ground=TREES)

    def test_sources_that_make_no_rule(self):
        for source in (("add", 2), ("add", -1), ("add", True), ("love", 0), ("zero", 0), ("what", 0), ("num", 0), ("add",), ("add", 0, 0), "add", None,
                       (None, 0), ([], 0), ("add", None), (taken(P, GROUND), False), (taken(NO, GROUND), False)):
            refused(self, NotFalling, at_rest, Kernel(GROUND), [source], ZERO)
        lent = Kernel(GROUND).by_lent(((), same(made("one"), ZERO)))
        refused(self, NotFalling, at_rest, Kernel(GROUND), [(lent, False)], made("one"))

    def test_by_chance(self):
        kernel = Kernel(GROUND)
        sources = sources_of(GROUND, "twice", "len", "add") + [
            (taken(self.assoc(), GROUND), False), (taken(alls(same(X, add(X, ZERO)), "num"), GROUND), True),
            (kernel.by_more(kernel.by_each(kernel.by_equation(made("first", A, B)), "a", "num"), P), False),
        ]
        rules = rules_of(GROUND, "twice", "len", "add") + [held_rule(GROUND, *source) for source in sources[-3:]]
        sources_used = 0
        chance = random.Random(23)
        for _ in range(60):
            term = some_terms(chance, 3)
            told, rest = plain_to_rest(GROUND, rules, term)
            due = [saying for _, k, _ in told if k >= len(rules) - 3 for saying in sources[k][0].given()]
            sources_used += len(due)
            self.holds(sources, term, rest, *due)
        self.assertGreater(sources_used, 10)

    def test_asked_again(self):
        kernel = Kernel(GROUND)
        sources = sources_of(GROUND, "add")
        one = at_rest(kernel, sources, add(num(2), A))
        at_rest(kernel, [("one", 0)], made("one"))
        other = at_rest(kernel, sources, add(num(2), A))
        self.assertEqual((one.given(), one.saying(), one.paper()), (other.given(), other.saying(), other.paper()))


def bound_at(k):
    return ("bound", k)


def to_sum(many, term):
    for _ in range(many):
        term = made("next", term)
    return term


class TestHelpers(unittest.TestCase):
    def test_plain_places(self):
        self.assertEqual(sorted(plain_places(add(A, num(1)))), [(), (0,), (1,), (1, 0)])
        self.assertEqual(plain_put(add(A, num(1)), (1, 0), B), add(A, made("next", B)))
        self.assertEqual(filled(X, (A,)), A)


if __name__ == "__main__":
    unittest.main()
