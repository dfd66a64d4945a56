import unittest

from tests.papersupport import A, B, NO, NO_SAYINGS, P, Q, R, RuleTest, S, given, nots, same
from tests.support import ZERO, name, num

ALL = ("all", "num", same(("bound", 0), A))


class JoiningTest(RuleTest):
    def breaks_with_no_saying(self, rule, *premises):
        for thing in NO_SAYINGS:
            self.breaks(rule, list(premises), thing)


class TestGiven(JoiningTest):
    def test_take(self):
        for saying in (NO, P, ALL, ("and", P, ("some", "thing", NO)), same(name("a", "list"), name("b", "list"))):
            self.holds("take", [], (saying,), (saying,), saying)

    def test_take_of_no_saying(self):
        self.breaks_with_no_saying("take")

    def test_more(self):
        self.holds("more", [((), P)], (Q,), (Q,), P)
        self.holds("more", [((), P)], (P,), (P,), P)
        self.holds("more", [(given(P, Q), R)], (S,), given(P, Q, S), R)
        self.holds("more", [(given(P, R), R)], (NO,), (NO,) + given(P, R), R)
        self.holds("more", [(given(NO, P), R)], (Q,), given(NO, P, Q), R)

    def test_more_of_what_is_given_already(self):
        for saying in (P, Q, R):
            self.holds("more", [(given(P, Q, R), S)], (saying,), given(P, Q, R), S)

    def test_more_of_no_saying(self):
        self.breaks_with_no_saying("more", ((P,), Q))


class TestAnd(JoiningTest):
    def test_both(self):
        self.holds("both", [((), P), ((), Q)], (), (), ("and", P, Q))
        self.holds("both", [((), Q), ((), P)], (), (), ("and", Q, P))
        self.holds("both", [((), P), ((), P)], (), (), ("and", P, P))
        self.holds("both", [((R,), P), ((NO,), Q)], (), given(NO, R), ("and", P, Q))
        self.holds("both", [(given(P, R, S), P), (given(NO, P, R), Q)], (), given(NO, P, R, S), ("and", P, Q))

    def test_left_and_right(self):
        for held in ((), given(P, Q, NO)):
            self.holds("left", [(held, ("and", P, Q))], (), held, P)
            self.holds("right", [(held, ("and", P, Q))], (), held, Q)
        self.holds("left", [((), ("and", ALL, ("and", P, Q)))], (), (), ALL)
        self.holds("right", [((), ("and", ALL, ("and", P, Q)))], (), (), ("and", P, Q))

    def test_left_and_right_of_others(self):
        for saying in (P, NO, ALL, ("or", P, Q), ("so", P, Q), ("not", ("and", P, Q)), ("all", "num", ("and", P, Q))):
            self.breaks("left", [((), saying)])
            self.breaks("right", [((), saying)])


class TestOr(JoiningTest):
    def test_first_and_second(self):
        for held in ((), given(P, NO)):
            self.holds("first", [(held, P)], (Q,), held, ("or", P, Q))
            self.holds("second", [(held, P)], (Q,), held, ("or", Q, P))
        self.holds("first", [((), P)], (P,), (), ("or", P, P))

    def test_first_and_second_of_no_saying(self):
        self.breaks_with_no_saying("first", ((), P))
        self.breaks_with_no_saying("second", ((), P))

    def test_either(self):
        one_or_other = ("or", P, Q)
        self.holds("either", [((), one_or_other), ((P,), R), ((Q,), R)], (), (), R)
        self.holds("either", [((), one_or_other), ((), R), ((), R)], (), (), R)
        self.holds("either", [((S,), one_or_other), ((P, NO)[::-1], R), ((Q,), R)], (), given(S, NO), R)
        self.holds("either", [((), ("or", P, P)), ((P,), P), ((P,), P)], (), (), P)

    def test_either_takes_each_case_from_its_own_step(self):
        one_or_other = ("or", P, Q)
        self.holds("either", [((), one_or_other), ((Q,), R), ((Q,), R)], (), (Q,), R)
        self.holds("either", [((), one_or_other), ((P,), R), ((P,), R)], (), (P,), R)
        self.holds("either", [((), one_or_other), (given(P, Q), R), (given(P, Q), R)], (), given(P, Q), R)
        self.holds("either", [(given(P, Q), one_or_other), ((P,), R), ((Q,), R)], (), given(P, Q), R)

    def test_either_broken(self):
        one, other = ((P,), R), ((Q,), R)
        for saying in (P, NO, ("and", P, Q), ("so", P, Q), ("not", ("or", P, Q)), R):
            self.breaks("either", [((), saying), one, other])
        self.breaks("either", [((), ("or", P, Q)), one, ((Q,), S)])
        self.breaks("either", [((), ("or", P, Q)), ((P,), S), other])
        self.breaks("either", [((), ("or", P, Q)), one, ((Q,), ("not", R))])
        self.breaks("either", [one, ((), ("or", P, Q)), other])


class TestSo(JoiningTest):
    def test_so(self):
        self.holds("so", [((P,), Q)], (P,), (), ("so", P, Q))
        self.holds("so", [((), Q)], (P,), (), ("so", P, Q))
        self.holds("so", [(given(P, Q, R), Q)], (Q,), given(P, R), ("so", Q, Q))
        self.holds("so", [(given(P, R), Q)], (S,), given(P, R), ("so", S, Q))
        self.breaks_with_no_saying("so", ((P,), Q))

    def test_use(self):
        self.holds("use", [((), ("so", P, Q)), ((), P)], (), (), Q)
        self.holds("use", [(given(P, R), ("so", P, Q)), (given(NO, R), P)], (), given(NO, P, R), Q)
        self.holds("use", [((), ("so", P, P)), ((), P)], (), (), P)

    def test_use_broken(self):
        for saying in (P, NO, ("and", P, Q), ("or", P, Q), ("so", Q, P), ("not", ("so", P, Q))):
            self.breaks("use", [((), saying), ((), P)])
        for saying in (Q, NO, ("so", P, Q), ("not", P), same(ZERO, A), same(B, ZERO)):
            self.breaks("use", [((), ("so", P, Q)), ((), saying)])
        self.breaks("use", [((), P), ((), ("so", P, Q))])


class TestNo(JoiningTest):
    def test_clash(self):
        self.holds("clash", [((), P), ((), ("not", P))], (), (), NO)
        self.holds("clash", [(given(P, Q), ("not", P)), (given(Q, R), nots(2, P))], (), given(P, Q, R), NO)
        for saying in (P, Q, NO, ("not", Q), nots(2, P), ("so", P, NO)):
            self.breaks("clash", [((), P), ((), saying)])
        self.breaks("clash", [((), ("not", P)), ((), P)])

    def test_deny(self):
        self.holds("deny", [((P,), NO)], (P,), (), ("not", P))
        self.holds("deny", [((), NO)], (P,), (), ("not", P))
        self.holds("deny", [(given(P, Q, ("not", Q)), NO)], (Q,), given(P, ("not", Q)), ("not", Q))
        self.breaks_with_no_saying("deny", ((P,), NO))

    def test_any(self):
        for saying in (P, NO, ALL):
            self.holds("any", [(given(P, Q), NO)], (saying,), given(P, Q), saying)
        self.breaks_with_no_saying("any", ((P,), NO))

    def test_back(self):
        self.holds("back", [((("not", P),), NO)], (P,), (), P)
        self.holds("back", [((), NO)], (P,), (), P)
        self.holds("back", [(given(P, ("not", P), ("not", Q)), NO)], (P,), given(P, ("not", Q)), P)
        self.holds("back", [(given(P, ("not", P)), NO)], (("not", P),), given(P, ("not", P)), ("not", P))
        self.holds("back", [((nots(2, P),), NO)], (("not", P),), (), ("not", P))
        self.breaks_with_no_saying("back", ((P,), NO))

    def test_of_others_than_no(self):
        for rule in ("deny", "any", "back"):
            for saying in (P, ("not", NO), nots(2), ("or", NO, NO), ("all", "num", NO), ("so", P, NO)):
                self.breaks(rule, [((P,), saying)], P)


class TestLetters(JoiningTest):
    def test_alike_but_for_a_kind(self):
        """The same letters with other kinds are other sayings."""
        one, other = same(name("a"), name("a")), same(name("a", "list"), name("a", "list"))
        self.holds("so", [(given(one, other), P)], (one,), (other,), ("so", one, P))
        self.breaks("use", [((), ("so", one, P)), ((), other)])
        self.breaks("clash", [((), one), ((), ("not", other))])

    def test_given_is_sorted(self):
        sayings = [P, Q, R, S, NO, ALL, ("not", P), ("and", P, Q), ("so", P, Q), ("or", P, Q), same(num(1), ZERO)]
        for one in sayings:
            for other in sayings:
                due = tuple(sorted([one, other])) if one != other else (one,)
                self.holds("both", [((one,), P), ((other,), Q)], (), due, ("and", P, Q))


if __name__ == "__main__":
    unittest.main()
