import unittest

from tests.papersupport import (
    A,
    B,
    C,
    NO,
    NO_KINDS,
    NO_NAMES,
    NO_SAYINGS,
    NO_TERMS,
    P,
    Q,
    R,
    RuleTest,
    bound,
    given,
    same,
)
from tests.support import ZERO, Alike, listed, made, name, num

X = bound(0)
AL = name("a", "list")
ADD = same(made("add", A, B), made("add", B, A))


class TestEach(RuleTest):
    def test_each(self):
        self.holds("each", [((), same(A, A))], ("a", "num"), (), ("all", "num", same(X, X)))
        self.holds("each", [((), ADD)], ("b", "num"), (), ("all", "num", same(made("add", A, X), made("add", X, A))))
        self.holds("each", [((R,), Q)], ("a", "num"), (R,), ("all", "num", same(B, X)))

    def test_within_others(self):
        inner = ("all", "num", same(X, A))
        self.holds("each", [((), inner)], ("a", "num"), (), ("all", "num", ("all", "num", same(X, bound(1)))))
        inner = ("and", ("some", "list", same(A, ZERO)), ("not", P))
        due = ("and", ("some", "list", same(bound(1), ZERO)), ("not", same(X, ZERO)))
        self.holds("each", [((), inner)], ("a", "num"), (), ("all", "num", due))

    def test_meant_nowhere(self):
        self.holds("each", [((R,), P)], ("b", "num"), (R,), ("all", "num", P))
        self.holds("each", [((), NO)], ("a", "thing"), (), ("all", "thing", NO))

    def test_same_letter_of_another_kind(self):
        self.holds("each", [((same(AL, AL),), P)], ("a", "num"), (same(AL, AL),), ("all", "num", same(X, ZERO)))
        self.holds("each", [((P,), same(A, A))], ("a", "list"), (P,), ("all", "list", same(A, A)))

    def test_free_in_what_is_given(self):
        self.breaks("each", [((P,), P)], "a", "num")
        self.breaks("each", [((P,), R)], "a", "num")
        self.breaks("each", [(given(Q, R), NO)], "a", "num")
        self.breaks("each", [((("all", "num", same(X, A)),), NO)], "a", "num")
        self.breaks("each", [((("not", ("or", NO, ("some", "list", same(made("len", X), A)))),), NO)], "a", "num")
        self.breaks("each", [((same(ZERO, made("next", made("add", ZERO, A))),), NO)], "a", "num")
        self.breaks("each", [((same(AL, AL),), P)], "a", "list")
        self.breaks("each", [(given(NO, R, ("not", P)), NO)], "a", "num")

    def test_no_name_and_no_kind(self):
        for thing in NO_NAMES:
            self.breaks("each", [((), P)], thing, "num")
        for thing in NO_KINDS:
            if thing not in ("spot", "list", "thing", "tree", "bush"):
                self.breaks("each", [((), P)], "a", thing)
        self.holds("each", [((), P)], ("abcdefgh", "num"), (), ("all", "num", P))


class TestAt(RuleTest):
    def test_at(self):
        every = ("all", "num", same(made("add", X, B), made("add", B, X)))
        self.holds("at", [((R,), every)], (A,), (R,), ADD)
        self.holds("at", [((), every)], (B,), (), same(made("add", B, B), made("add", B, B)))
        self.holds("at", [((), ("all", "num", same(X, ZERO)))], (num(3),), (), same(num(3), ZERO))
        self.holds("at", [((), ("all", "list", same(X, X)))], (listed(A),), (), same(listed(A), listed(A)))

    def test_within_others(self):
        every = ("all", "num", ("all", "num", ("so", same(X, bound(1)), same(bound(1), X))))
        due = ("all", "num", ("so", same(X, num(2)), same(num(2), X)))
        self.holds("at", [((), every)], (num(2),), (), due)
        self.holds("at", [((), ("all", "num", ("some", "list", same(bound(1), A))))], (A,), (), ("some", "list", same(A, A)))

    def test_what_is_bound_elsewhere_is_no_term(self):
        every = ("all", "num", ("all", "num", same(bound(1), X)))
        for k in range(3):
            self.breaks("at", [((), every)], bound(k))
            self.breaks("at", [((), every)], made("next", bound(k)))

    def test_meant_nowhere(self):
        self.holds("at", [((P,), ("all", "num", Q))], (num(2),), (P,), Q)
        deep = num(55)
        self.holds("at", [((P,), ("all", "num", Q))], (deep,), (P,), Q)

    def test_of_others(self):
        for saying in (P, NO, ("some", "num", same(X, ZERO)), ("not", ("all", "num", same(X, ZERO)))):
            self.breaks("at", [((), saying)], A)

    def test_no_term_of_the_kind(self):
        every = ("all", "num", same(X, ZERO))
        for thing in NO_TERMS + [AL, made("nil"), made("home")]:
            self.breaks("at", [((), every)], thing)
            self.breaks("at", [((), ("all", "num", NO))], thing)


class TestThere(RuleTest):
    def test_there(self):
        self.holds("there", [((R,), P)], ("num", same(X, ZERO), A), (R,), ("some", "num", same(X, ZERO)))
        self.holds("there", [((), P)], ("num", same(A, X), ZERO), (), ("some", "num", same(A, X)))

    def test_not_all_places_are_meant(self):
        saying = same(made("add", A, A), A)
        for body in (same(made("add", X, X), X), same(made("add", X, A), A), same(made("add", A, A), X)):
            self.holds("there", [((P,), saying)], ("num", body, A), (P,), ("some", "num", body))

    def test_within_others(self):
        saying = ("all", "num", same(X, num(1)))
        self.holds("there", [((), saying)], ("num", ("all", "num", same(X, bound(1))), num(1)), (),
                   ("some", "num", ("all", "num", same(X, bound(1)))))
        self.breaks("there", [((), saying)], "num", ("all", "num", same(X, X)), num(1))
        self.breaks("there", [((), saying)], "num", ("all", "num", same(bound(1), X)), num(1))

    def test_what_is_bound_elsewhere_is_no_term(self):
        body = ("all", "num", same(bound(1), X))
        for k in range(3):
            self.breaks("there", [((), ("all", "num", same(X, X)))], "num", body, bound(k))

    def test_meant_nowhere(self):
        self.holds("there", [((), P)], ("num", P, B), (), ("some", "num", P))
        self.holds("there", [((), P)], ("list", P, AL), (), ("some", "list", P))
        self.breaks("there", [((), P)], "num", P, AL)

    def test_another_body_or_term(self):
        self.breaks("there", [((), P)], "num", same(X, ZERO), B)
        self.breaks("there", [((), P)], "num", same(ZERO, X), A)
        self.breaks("there", [((), P)], "num", same(X, X), A)
        self.breaks("there", [((), P)], "num", Q, A)
        self.breaks("there", [((), P)], "num", ("not", same(X, ZERO)), A)

    def test_brackets(self):
        for thing in NO_KINDS + [Alike()]:
            self.breaks("there", [((), P)], thing, same(X, ZERO), A)
            self.breaks("there", [((), P)], thing, P, A)
        for thing in NO_SAYINGS:
            if thing != same(ZERO, X):
                self.breaks("there", [((), P)], "num", thing, A)
        for thing in (Alike(), same(Alike(), ZERO), same(bound(False), ZERO), same(("bound", Alike()), ZERO), same(("name", "a", Alike()), ZERO)):
            self.breaks("there", [((), P)], "num", thing, A)
        for thing in NO_TERMS + [AL]:
            self.breaks("there", [((), P)], "num", same(X, ZERO), thing)
            self.breaks("there", [((), P)], "num", P, thing)
        self.breaks("there", [((), P)], "list", same(X, ZERO), A)
        self.breaks("there", [((), same(AL, AL))], "num", same(X, X), AL)


class TestName(RuleTest):
    SOME = ("some", "num", same(X, ZERO))

    def test_name(self):
        self.holds("name", [((), self.SOME), ((P,), R)], ("a",), (), R)
        self.holds("name", [((), self.SOME), ((same(B, ZERO),), R)], ("b",), (), R)
        self.holds("name", [((Q,), self.SOME), (given(P, R), NO)], ("a",), given(Q, R), NO)

    def test_not_given(self):
        self.holds("name", [((), self.SOME), ((), R)], ("a",), (), R)
        self.holds("name", [((Q,), self.SOME), ((R,), R)], ("d",), given(Q, R), R)

    def test_given_with_the_some(self):
        """What is given for the some stays, even where it is the body opened by the name."""
        self.holds("name", [((P,), self.SOME), ((P,), R)], ("a",), (P,), R)
        self.holds("name", [((same(A, A),), self.SOME), ((P,), R)], ("a",), (same(A, A),), R)

    def test_meant_nowhere(self):
        self.holds("name", [((), ("some", "num", P)), (given(P, R), R)], ("d",), (R,), R)
        self.breaks("name", [((), ("some", "num", P)), (given(P, R), R)], "a")

    def test_same_letter_of_another_kind(self):
        other = same(AL, AL)
        self.holds("name", [((), self.SOME), (given(P, other), other)], ("a",), (other,), other)
        self.holds("name", [((), ("some", "list", P)), ((P,), P)], ("a",), (), P)

    def test_free_elsewhere(self):
        self.breaks("name", [((), ("some", "num", same(X, A))), ((same(A, A),), R)], "a")
        self.breaks("name", [((), self.SOME), ((P,), P)], "a")
        self.breaks("name", [((), self.SOME), ((P,), ("all", "num", same(A, X)))], "a")
        self.breaks("name", [((), self.SOME), (given(P, Q), R)], "a")
        self.breaks("name", [((), self.SOME), (given(P, same(ZERO, A)), R)], "a")
        self.breaks("name", [((), self.SOME), (given(P, ("not", P)), R)], "a")
        self.breaks("name", [((), self.SOME), (given(same(B, ZERO), Q), R)], "b")

    def test_of_others(self):
        for saying in (P, NO, ("all", "num", same(X, ZERO)), ("not", self.SOME), ("or", self.SOME, NO)):
            self.breaks("name", [((), saying), ((P,), R)], "a")

    def test_no_name(self):
        for thing in NO_NAMES:
            self.breaks("name", [((), self.SOME), ((), R)], thing)


class TestAlike(RuleTest):
    def test_alike(self):
        for term in (A, ZERO, num(7), made("home"), listed(A, B), made("add", A, num(2)), name("xa", "spot")):
            self.holds("alike", [], (term,), (), same(term, term))

    def test_no_term(self):
        for thing in NO_TERMS:
            self.breaks("alike", [], thing)


class TestPut(RuleTest):
    def test_put(self):
        self.holds("put", [((), P), ((), Q)], ("num", same(B, X)), (), same(B, ZERO))
        self.holds("put", [(given(R, NO), P), (given(Q, R), Q)], ("num", same(B, X)), given(NO, Q, R), same(B, ZERO))
        self.holds("put", [((), same(AL, listed(A)))] + [((), same(AL, AL))], ("list", same(X, AL)), (), same(listed(A), AL))

    def test_not_all_places_are_meant(self):
        saying = ("and", same(made("add", A, A), A), P)
        for body, due in (
            (("and", same(made("add", X, A), A), P), ("and", same(made("add", num(1), A), A), P)),
            (("and", same(made("add", A, A), X), same(X, ZERO)), ("and", same(made("add", A, A), num(1)), same(num(1), ZERO))),
            (saying, saying),
        ):
            self.holds("put", [((), same(A, num(1))), ((), saying)], ("num", body), (), due)

    def test_within_others(self):
        saying = ("all", "num", same(made("add", X, A), made("add", A, X)))
        body = ("all", "num", same(made("add", X, bound(1)), made("add", A, X)))
        due = ("all", "num", same(made("add", X, C), made("add", A, X)))
        self.holds("put", [((), same(A, C)), ((), saying)], ("num", body), (), due)

    def test_only_from_left_to_right(self):
        self.breaks("put", [((), same(ZERO, A)), ((), Q)], "num", same(B, X))
        self.breaks("put", [((), Q), ((), P)], "num", same(B, X))

    def test_premises(self):
        for saying in (NO, ("not", P), ("and", P, P), ("all", "num", same(X, ZERO)), same(B, ZERO)):
            self.breaks("put", [((), saying), ((), Q)], "num", same(B, X))
        for saying in (P, NO, same(B, B), same(C, A), ("not", Q)):
            self.breaks("put", [((), P), ((), saying)], "num", same(B, X))

    def test_brackets(self):
        for thing in NO_KINDS + [Alike()]:
            self.breaks("put", [((), P), ((), Q)], thing, same(B, X))
            self.breaks("put", [((), P), ((), Q)], thing, Q)
        for thing in NO_SAYINGS:
            if thing != same(ZERO, X):
                self.breaks("put", [((), P), ((), Q)], "num", thing)
        for thing in (Alike(), same(B, Alike()), same(Alike(), X), same(B, bound(False)), same(("name", Alike(), "num"), X), same(("name", "b", Alike()), X)):
            self.breaks("put", [((), P), ((), Q)], "num", thing)
        self.breaks("put", [((), P), ((), Q)], "list", Q)
        self.breaks("put", [((), same(AL, AL)), ((), Q)], "num", Q)
        self.breaks("put", [((), P), ((), Q)], "num", same(X, B))


if __name__ == "__main__":
    unittest.main()
