import copy
import itertools
import random
import unittest

from goalsmith.errors import TooFar
from goalsmith.matching import filled, fitting
from goalsmith.meets import come_together, meets
from goalsmith.resting import rewrites, to_rest
from goalsmith.terms import is_term, kind_of, names_of
from tests.papersupport import A, B, GROUND
from tests.rulesupport import (
    LEAF,
    TREES,
    X,
    Y,
    Z,
    plain_at,
    plain_places,
    plain_rewrites,
    plain_rewritten,
    plain_to_rest,
    rules_of,
    taken_rule,
)
from tests.support import ZERO, made, name, num, refused
from tests.test_resting import add, some_terms

ASSOC = taken_rule(GROUND, add(add(Z, Y), X), add(Z, add(Y, X)), "num", "num", "num")
ZERO_LAST = taken_rule(GROUND, add(X, ZERO), X, "num")
TWICE = taken_rule(GROUND, add(X, X), made("next", X), "num")


def names_in_rules(rules):
    found = {}
    for _, left, right in rules:
        text = repr((left, right))
        found.update({word: True for word in "abcdefghijklmnopqrstuvwxyz" if f"('name', '{word}'," in text})
    return found


def canonical(rules, meet):
    """A meet with its own names numbered as they first stand in its term."""
    barred = names_in_rules(rules)
    order = []

    def walk(term):
        if term[0] == "name" and term[1] not in barred and term not in order:
            order.append(term)
        for part in term[2] if term[0] == "made" else ():
            walk(part)

    def exchanged(term):
        if term in order:
            return ("bound", order.index(term))
        return term if term[0] != "made" else ("made", term[1], tuple(exchanged(part) for part in term[2]))

    for side in meet:
        walk(side)
    return tuple(exchanged(side) for side in meet), tuple(kind for _, _, kind in order)


def made_places(left):
    return [place for place in plain_places(left) if plain_at(left, place)[0] == "made"]


class MeetsTest(unittest.TestCase):
    def right(self, ground, rules, told=None):
        """What is told are meets: the sides are what two rules make of the term; its own names stand in no rule."""
        was = copy.deepcopy(rules)
        told = meets(ground, rules) if told is None else told
        self.assertIsInstance(told, list)
        for term, one, other in told:
            for thing in (term, one, other):
                self.assertTrue(is_term(ground, thing))
            self.assertEqual(kind_of(ground, term), kind_of(ground, one))
            self.assertTrue(any(
                plain_rewritten(rules, term, ((), k, parts)) == one and
                any(plain_rewritten(rules, term, rewrite) == other for rewrite in plain_rewrites(ground, rules, term)
                    if rewrite[0] in made_places(rules[k][1]) and rewrite[:2] != ((), k))
                for place, k, parts in plain_rewrites(ground, rules, term) if place == ()
            ), (term, one, other))
            kinds = {}
            for x, kind in names_of(term):
                self.assertEqual(kinds.setdefault(x, kind), kind, "each of what is left is a name of its own")
        self.assertEqual(rules, was)
        return told

    def complete(self, ground, rules, terms):
        """Wherever two rules do something to one term, so that their lefts meet, this is told, as general as can be."""
        told = [canonical(rules, meet) for meet in meets(ground, rules)]
        met = 0
        for term in terms:
            found = plain_rewrites(ground, rules, term)
            for place, k, parts in found:
                if place != ():
                    continue
                for rewrite in found:
                    if rewrite[0] in made_places(rules[k][1]) and (rewrite[0] != () or rewrite[1] != k):
                        due = plain_rewritten(rules, term, (place, k, parts)), plain_rewritten(rules, term, rewrite)
                        self.assertTrue(any(self.is_of(ground, meet, kinds, term, due) for meet, kinds in told), (term, due))
                        met += 1
        return met

    def is_of(self, ground, meet, kinds, term, due):
        whole, one, other = meet
        parts = fitting(ground, (kinds, whole, whole), term)
        return parts is not None and (filled(one, parts), filled(other, parts)) == due

    def all_of(self, rules, *due, ground=GROUND):
        """The meets are just these, whatever their names and order."""
        told = [canonical(rules, meet) for meet in self.right(ground, rules)]
        self.assertEqual(sorted(told, key=repr), sorted([canonical(rules, meet) for meet in due], key=repr))


V, W, U, T = (name(x) for x in ("vv", "ww", "uu", "tt"))


class TestMeets(MeetsTest):
    def test_none(self):
        for rules in ([], rules_of(GROUND, "add"), rules_of(GROUND, "add", "twice", "one", "len", "size", "first", "dots", "pick"), [ZERO_LAST],
                      [TWICE], rules_of(TREES, "flip")):
            ground = TREES if rules and "flip" in repr(rules) else GROUND
            self.assertEqual(meets(ground, rules), [])
            self.assertEqual(come_together(ground, rules), ("one",))
            self.assertEqual(come_together(ground, rules, 0), ("one",))

    def test_one_with_itself(self):
        self.all_of([ASSOC], (add(add(add(V, W), U), T), add(add(V, W), add(U, T)), add(add(V, add(W, U)), T)))

    def test_two_at_the_whole(self):
        rules = rules_of(GROUND, "add") + [ZERO_LAST]
        ways = [(add(ZERO, ZERO), ZERO, ZERO), (add(made("next", V), ZERO), made("next", add(V, ZERO)), made("next", V))]
        told = [canonical(rules, meet) for meet in self.right(GROUND, rules)]
        for term, one, other in ways:
            self.assertTrue(canonical(rules, (term, one, other)) in told or canonical(rules, (term, other, one)) in told)
        for meet in told:
            self.assertIn(meet, [canonical(rules, way) for term, one, other in ways for way in ((term, one, other), (term, other, one))])

    def test_within(self):
        rules = [ASSOC, ZERO_LAST]
        told = [canonical(rules, meet) for meet in self.right(GROUND, rules)]
        due = (add(add(V, ZERO), W), add(V, add(ZERO, W)), add(V, W))
        self.assertIn(canonical(rules, due), told)
        self.assertIn(canonical(rules, (add(add(add(V, W), U), T), add(add(V, W), add(U, T)), add(add(V, add(W, U)), T))), told)
        self.assertEqual(len({repr(meet[0][0]) for meet in told}), 3)

    def test_bound_ones_that_stand_twice(self):
        rules = [TWICE, rules_of(GROUND, "add")[1]]
        term = add(made("next", V), made("next", V))
        told = [canonical(rules, meet) for meet in self.right(GROUND, rules)]
        self.assertTrue(told)
        self.assertIn(told[0][0][0], [canonical(rules, (term, term, term))[0][0]])
        rules = [TWICE, taken_rule(GROUND, add(made("twice", X), made("next", Y)), ZERO, "num", "num")]
        self.assertEqual(meets(GROUND, rules), [])
        rules = [TWICE, taken_rule(GROUND, add(made("next", Y), made("next", made("first", Z, X))), Y, "num", "num", "num")]
        told = self.right(GROUND, rules)
        for term, _, _ in told:
            self.assertEqual(canonical(rules, (term, term, term))[0][0], add(made("next", made("first", X, Y)), made("next", made("first", X, Y))))
        self.assertTrue(told)

    def test_what_would_stand_in_itself(self):
        rules = [TWICE, taken_rule(GROUND, add(X, made("next", X)), X, "num")]
        self.assertEqual(meets(GROUND, rules), [])
        rules = [taken_rule(GROUND, made("first", Y, add(X, Y)), Y, "num", "num"), taken_rule(GROUND, made("first", Y, Y), ZERO, "num", "num")]
        self.assertEqual(meets(GROUND, rules), [])
        other = taken_rule(GROUND, made("first", add(X, Y), X), Y, "num", "num")
        self.assertEqual(meets(GROUND, [rules[0], other]), [])

    def test_free_names(self):
        rules = [taken_rule(GROUND, add(A, X), X, "num"), taken_rule(GROUND, add(X, B), made("next", X), "num")]
        told = [canonical(rules, meet) for meet in self.right(GROUND, rules)]
        self.assertIn(told[0][0], [(add(A, B), B, made("next", A)), (add(A, B), made("next", A), B)])
        rules = [taken_rule(GROUND, add(A, X), X, "num"), taken_rule(GROUND, add(B, X), made("next", X), "num")]
        self.assertEqual(meets(GROUND, rules), [])
        rules = [taken_rule(GROUND, add(A, made("next", X)), X, "num"), taken_rule(GROUND, add(X, made("next", name("a", "num"))), X, "num")]
        self.assertEqual({meet[0] for meet in meets(GROUND, rules)}, {add(A, made("next", A))})

        # The same name meets itself, and one that is called like a maker does not meet what this makes.
        rules = [taken_rule(GROUND, add(A, made("next", X)), X, "num"), taken_rule(GROUND, add(A, made("next", ZERO)), A)]
        self.assertEqual({meet[0] for meet in meets(GROUND, rules)}, {add(A, num(1))})
        rules = [taken_rule(GROUND, add(ZERO, made("next", X)), X, "num"), taken_rule(GROUND, add(name("zero"), made("next", ZERO)), ZERO)]
        self.assertEqual(meets(GROUND, rules), [])
        rules = [taken_rule(GROUND, add(made("next", X), A), X, "num"), taken_rule(GROUND, add(made("next", name("next")), A), ZERO),
                 taken_rule(GROUND, add(name("next"), A), ZERO)]
        self.assertEqual({meet[0] for meet in meets(GROUND, rules)}, {add(made("next", name("next")), A)})

    def test_bound_ones_that_stand_twice_in_both(self):
        rules = [taken_rule(GROUND, add(X, X), X, "num"), taken_rule(GROUND, made("first", add(X, X), X), ZERO, "num")]
        told = self.right(GROUND, rules)
        self.assertEqual([canonical(rules, meet)[0][0] for meet in told], [made("first", add(X, X), X)])
        rules = [taken_rule(GROUND, add(X, X), X, "num"), taken_rule(GROUND, add(Y, Y), ZERO, "num", "num")]
        told = self.right(GROUND, rules)
        self.assertEqual({repr(canonical(rules, meet)[0][0]) for meet in told}, {repr(add(X, X))})

    def test_names_that_stand_in_rights_alone(self):
        rules = [taken_rule(GROUND, add(add(Z, Y), X), made("next", name(x)), "num", "num", "num") for x in "abcd"]
        told = self.right(GROUND, rules)
        self.assertTrue(told)
        for term, _, _ in told:
            for x, _ in names_of(term):
                self.assertNotIn(x, "abcd")

    def test_names_that_stand_in_no_rule(self):
        taken = [name(x) for x in "abcdefg"]
        rules = [ASSOC] + [taken_rule(GROUND, made("first", x, X), x, "num") for x in taken]
        rules.append(taken_rule(GROUND, made("len", name("i", "list")), ZERO))
        told = self.right(GROUND, rules)
        self.assertTrue(told)
        for term, _, _ in told:
            for x, _ in names_of(term):
                self.assertNotIn(x, "abcdefgi")
            self.assertEqual(len(names_of(term)), 4)

    def test_whole_of_itself(self):
        for rule in (ASSOC, ZERO_LAST, TWICE) + tuple(rules_of(GROUND, "add", "len", "dots")):
            for term, one, other in meets(GROUND, [rule]):
                self.assertNotEqual(canonical([rule], (term, term, term))[0][0], rule[1])
                self.assertNotEqual(one, other)
        self.assertEqual(len(meets(GROUND, [ASSOC])), 1)

    def test_kinds(self):
        """Bound ones of several kinds keep these."""
        rules = [taken_rule(TREES, made("fork", made("tip", X), Y), X, "tree", "tree")]
        self.assertEqual(meets(TREES, rules), [])
        rules = [taken_rule(GROUND, made("pick", Y, X, Y), Y, "thing", "num"), rules_of(GROUND, "pick")[1]]
        told = [canonical(rules, meet) for meet in self.right(GROUND, rules)]
        self.assertTrue(told)
        self.assertEqual(told[0][1], ("thing", "num"))
        self.assertEqual(told[0][0][0], made("pick", X, made("next", Y), X))

    def test_told_lists(self):
        rules = [ASSOC, ZERO_LAST]
        told = meets(GROUND, rules)
        due = copy.deepcopy(told)
        told.clear()
        meets(GROUND, [TWICE])
        self.assertEqual(meets(GROUND, rules), due)


ROWS = [
    [ASSOC], [ASSOC, ZERO_LAST], [ASSOC, TWICE], [TWICE, ZERO_LAST], rules_of(GROUND, "add") + [ASSOC, ZERO_LAST],
    rules_of(GROUND, "add", "twice") + [TWICE, taken_rule(GROUND, made("twice", made("next", X)), X, "num")],
    [taken_rule(GROUND, add(A, X), X, "num"), ZERO_LAST, TWICE], [ASSOC, ASSOC],
    [taken_rule(GROUND, made("first", add(Y, X), Y), X, "num", "num"), ASSOC, taken_rule(GROUND, made("first", X, X), ZERO, "num")],
]


class TestAllMeets(MeetsTest):
    def test_by_chance(self):
        chance = random.Random(41)
        terms = [some_terms(chance, 3) for _ in range(300)]
        small = [A, B, ZERO, num(1), add(A, ZERO), add(A, A), made("next", A)]
        terms += [add(one, other) for one, other in itertools.product(small, repeat=2)]
        terms += [add(add(one, other), more) for one, other, more in itertools.product(small, repeat=3)]
        terms += [made("first", add(one, other), more) for one, other, more in itertools.product(small[:5], repeat=3)]
        terms += [made("twice", term) for term in small]
        met = 0
        for rules in ROWS:
            self.right(GROUND, rules)
            met += self.complete(GROUND, rules, terms)
        self.assertGreater(met, 500)


class TestComeTogether(MeetsTest):
    def together(self, rules, ground=GROUND, most=100):
        """Told is one, and no term has two; or two, of which each is reached, and at rest."""
        was = copy.deepcopy(rules)
        told = come_together(ground, rules, most)
        self.assertEqual(rules, was)
        self.assertEqual(come_together(ground, rules, most), told)
        if told == ("one",):
            return "one"
        word, term, one, other = told
        self.assertEqual(word, "two")
        self.assertNotEqual(one, other)
        for rest in (one, other):
            self.assertEqual(rewrites(ground, rules, rest), [])
            self.assertIn(rest, self.rest_forms(ground, rules, term))
        return "two"

    def rest_forms(self, ground, rules, term):
        """All rest forms of a term, by all ways."""
        waiting, seen, found = [term], [], []
        while waiting:
            here = waiting.pop()
            if here not in seen:
                seen.append(here)
                rewritten = [plain_rewritten(rules, here, rewrite) for rewrite in plain_rewrites(ground, rules, here)]
                waiting += rewritten
                found += [] if rewritten else [here]
        return found

    def test_one(self):
        for rules in ([], [ASSOC], [ZERO_LAST], rules_of(GROUND, "add") + [ZERO_LAST], rules_of(GROUND, "add") + [ASSOC],
                      [ASSOC, ZERO_LAST, taken_rule(GROUND, add(ZERO, X), X, "num")],
                      rules_of(GROUND, "add", "twice", "one", "len") + [ASSOC, ZERO_LAST],
                      [taken_rule(TREES, made("flip", made("flip", X)), X, "tree")]):
            self.assertEqual(self.together(rules, TREES if "flip" in repr(rules) else GROUND), "one", rules)

    def test_one_rest_form_for_each_term(self):
        rules = rules_of(GROUND, "add", "twice", "one") + [ASSOC, ZERO_LAST]
        self.assertEqual(self.together(rules), "one")
        chance = random.Random(43)
        for _ in range(60):
            term = some_terms(chance, 2)
            self.assertEqual(self.rest_forms(GROUND, rules, term), [plain_to_rest(GROUND, rules, term)[1]])

    def test_two(self):
        for rules in ([TWICE, rules_of(GROUND, "add")[0]], [TWICE] + rules_of(GROUND, "add"), [ASSOC, TWICE],
                      [taken_rule(GROUND, made("twice", X), X, "num"), taken_rule(GROUND, made("twice", X), ZERO, "num")],
                      [taken_rule(GROUND, add(Y, X), X, "num", "num"), taken_rule(GROUND, add(Y, X), Y, "num", "num")],
                      rules_of(GROUND, "twice") + [taken_rule(GROUND, made("twice", ZERO), num(1))],
                      [taken_rule(GROUND, made("next", made("next", X)), X, "num"), taken_rule(GROUND, made("next", made("next", made("next", X))), ZERO, "num")],
                      rules_of(TREES, "flip") + [taken_rule(TREES, made("flip", made("tip", X)), X, "tree")]):
            self.assertEqual(self.together(rules, TREES if "flip" in repr(rules) else GROUND), "two", rules)

    def test_what_two_are(self):
        rules = [taken_rule(GROUND, made("twice", ZERO), num(1)), taken_rule(GROUND, made("twice", X), ZERO, "num")]
        told = come_together(GROUND, rules)
        self.assertIn(told, [("two", made("twice", ZERO), num(1), ZERO), ("two", made("twice", ZERO), ZERO, num(1))])

    def test_one_rule_none_and_a_rule_twice(self):
        for rule in (ASSOC, ZERO_LAST, TWICE) + tuple(rules_of(GROUND, "add", "len")):
            self.assertEqual(come_together(GROUND, [rule]), ("one",))
            self.assertEqual(come_together(GROUND, [rule, rule]), ("one",))
            self.assertEqual(come_together(GROUND, [rule] * 3), ("one",))
        self.assertEqual(come_together(GROUND, []), ("one",))
        doubled = [TWICE, rules_of(GROUND, "add")[0]] * 2
        self.assertEqual(self.together(doubled), "two")

    def test_so_many(self):
        """Sides that are unlike are led to rest with so many rewrites each."""
        self.assertEqual(come_together(GROUND, [ASSOC], 2), ("one",))
        refused(self, TooFar, come_together, GROUND, [ASSOC], 0)
        most = 0
        for _, one, other in meets(GROUND, [ASSOC]):
            most = max(most, len(to_rest(GROUND, [ASSOC], one)), len(to_rest(GROUND, [ASSOC], other)))
        self.assertEqual(come_together(GROUND, [ASSOC], most), ("one",))
        refused(self, TooFar, come_together, GROUND, [ASSOC], most - 1)
        rules = rules_of(GROUND, "add") + [taken_rule(GROUND, made("twice", made("one")), add(num(30), ZERO)), taken_rule(GROUND, made("twice", X), num(30), "num")]
        self.assertEqual(come_together(GROUND, rules), ("one",))
        self.assertEqual(come_together(GROUND, rules, 31), ("one",))
        refused(self, TooFar, come_together, GROUND, rules, 30)

    def test_great(self):
        """A term that is great would come of a side."""
        rules = rules_of(TREES, "dup") + [
            taken_rule(TREES, made("flip", made("flip", LEAF)), nested("dup", 8)),
            taken_rule(TREES, made("flip", made("flip", X)), X, "tree"),
        ]
        refused(self, TooFar, come_together, TREES, rules)


def nested(f, many):
    term = LEAF
    for _ in range(many):
        term = made(f, term)
    return term


if __name__ == "__main__":
    unittest.main()
