import unittest

from tests.papersupport import (
    A,
    B,
    BUSH,
    C,
    GROUND,
    NO,
    NO_KINDS,
    NO_NAMES,
    NO_NUMBERS,
    NO_SAYINGS,
    NO_TERMS,
    P,
    Q,
    R,
    RuleTest,
    bound,
    given,
    same,
)
from tests.support import ZERO, listed, made, name, num

X = bound(0)
AL, BL = name("a", "list"), name("b", "list")
DOT = made("dot")


def bush(x):
    return name(x, "bush")


class TestEquation(RuleTest):
    def equals(self, term, due):
        self.holds("equation", [], (term,), (), same(term, due))

    def test_plain_works(self):
        self.equals(made("twice", A), made("add", A, A))
        self.equals(made("twice", made("one")), made("add", made("one"), made("one")))
        self.equals(made("one"), num(1))
        self.equals(made("first", A, B), A)
        self.equals(made("first", B, A), B)

    def test_falling_works(self):
        self.equals(made("add", ZERO, B), B)
        self.equals(made("add", num(1), B), made("next", made("add", ZERO, B)))
        self.equals(made("add", made("next", made("twice", A)), num(2)), made("next", made("add", made("twice", A), num(2))))
        self.equals(made("len", made("nil")), ZERO)
        self.equals(made("len", made("cons", A, AL)), made("next", made("len", AL)))
        one, other = name("s", "thing"), name("t", "thing")
        self.equals(made("pick", one, ZERO, other), one)
        self.equals(made("pick", one, made("next", A), other), other)

    def test_makers_of_up_to_four_parts(self):
        def dots(part):
            return made("dots", A, part)

        self.equals(dots(DOT), A)
        self.equals(dots(made("stem", bush("b"))), A)
        self.equals(dots(made("knot", B)), B)
        self.equals(dots(made("twin", bush("b"), bush("c"))), A)
        self.equals(dots(made("trio", B, bush("b"), C)), made("add", B, C))
        self.equals(dots(made("quad", bush("b"), B, bush("c"), AL)), made("dots", A, bush("c")))

    def test_no_right(self):
        for term in (A, AL, ZERO, num(1), listed(A), made("home"), made("age", name("a", "thing"))):
            self.breaks("equation", [], term)
        self.breaks("equation", [], made("love", name("a", "thing"), name("b", "thing")))
        self.breaks("equation", [], made("grow", A, DOT))

    def test_names_called_like_works_and_makers(self):
        for x in ("one", "twice", "add", "zero", "next"):
            self.breaks("equation", [], name(x))
            self.breaks("equation", [], made("add", name(x), ZERO))
            self.breaks("unlike", [((), same(name(x), num(1)))], P)
            self.breaks("unlike", [((), same(num(1), name(x)))], P)
            self.breaks("unlike", [((), same(name("next"), name(x)))], P)
            self.breaks("part", [((), same(name(x), name(x)))], 0)
            self.breaks("part", [((), same(name(x), num(1)))], 0)
            self.breaks("part", [((), same(num(1), name(x)))], 0)

    def test_no_maker_at_the_place(self):
        self.breaks("equation", [], made("add", A, ZERO))
        self.breaks("equation", [], made("add", made("one"), ZERO))
        self.breaks("equation", [], made("len", AL))
        self.breaks("equation", [], made("pick", name("s", "thing"), A, name("s", "thing")))
        self.breaks("equation", [], made("dots", ZERO, made("grow", ZERO, DOT)))

    def test_no_term(self):
        for thing in NO_TERMS + [made("twice", X), made("add", ZERO, X)]:
            self.breaks("equation", [], thing)


class TestUnlike(RuleTest):
    def test_unlike(self):
        for saying in (P, NO, ("all", "num", same(X, A))):
            self.holds("unlike", [((), same(ZERO, num(1)))], (saying,), (), saying)
            self.holds("unlike", [(given(P, Q), same(made("next", A), ZERO))], (saying,), given(P, Q), saying)
        self.holds("unlike", [((), same(made("nil"), made("cons", A, AL)))], (P,), (), P)

    def test_not_made_by_unlike_makers(self):
        next_a = made("next", A)
        for one in (A, ZERO, next_a, made("one"), made("twice", A)):
            for other in (A, made("one"), made("twice", B), made("add", ZERO, B)):
                self.breaks("unlike", [((), same(one, other))], P)
                self.breaks("unlike", [((), same(other, one))], P)
        self.breaks("unlike", [((), same(ZERO, ZERO))], P)
        self.breaks("unlike", [((), same(next_a, made("next", B)))], P)
        for saying in (NO, ("not", same(ZERO, num(1))), ("and", same(ZERO, num(1)), P), ("some", "num", same(ZERO, num(1)))):
            self.breaks("unlike", [((), saying)], P)

    def test_no_saying(self):
        for thing in NO_SAYINGS:
            self.breaks("unlike", [((), same(ZERO, num(1)))], thing)


class TestPart(RuleTest):
    def test_part(self):
        self.holds("part", [((), same(made("next", A), num(2)))], (0,), (), same(A, num(1)))
        saying = same(made("cons", A, AL), made("cons", B, BL))
        self.holds("part", [(given(P, Q), saying)], (0,), given(P, Q), same(A, B))
        self.holds("part", [(given(P, Q), saying)], (1,), given(P, Q), same(AL, BL))
        saying = same(made("quad", bush("a"), A, bush("b"), AL), made("quad", DOT, B, bush("a"), BL))
        for place, due in enumerate([same(bush("a"), DOT), same(A, B), same(bush("b"), bush("a")), same(AL, BL)]):
            self.holds("part", [((), saying)], (place,), (), due)

    def test_no_such_number(self):
        for thing in NO_NUMBERS + [1, 2, 10 ** 30]:
            self.breaks("part", [((), same(made("next", A), num(2)))], thing)
        for thing in NO_NUMBERS + [2, 3]:
            self.breaks("part", [((), same(made("cons", A, AL), made("cons", B, BL)))], thing)
        for thing in NO_NUMBERS + [0]:
            self.breaks("part", [((), same(ZERO, ZERO))], thing)

    def test_not_made_by_one_maker(self):
        self.breaks("part", [((), same(num(1), ZERO))], 0)
        self.breaks("part", [((), same(A, num(1)))], 0)
        self.breaks("part", [((), same(num(1), A))], 0)
        self.breaks("part", [((), same(made("twice", A), made("twice", B)))], 0)
        self.breaks("part", [((), same(made("stem", DOT), made("twin", DOT, DOT)))], 0)
        for saying in (NO, ("not", same(num(1), num(2))), ("and", same(num(1), num(2)), P)):
            self.breaks("part", [((), saying)], 0)


class TestDown(RuleTest):
    BODY = same(made("add", X, ZERO), X)
    ENDS = ((), same(made("add", ZERO, ZERO), ZERO))
    NEXT = made("next", A)
    STEP = ((same(made("add", A, ZERO), A),), same(made("add", NEXT, ZERO), NEXT))

    def test_down(self):
        due = ("all", "num", self.BODY)
        self.holds("down", [self.ENDS, self.STEP], ("num", self.BODY, ((), ("a",))), (), due)
        self.holds("down", [self.ENDS, ((), self.STEP[1])], ("num", self.BODY, ((), ("a",))), (), due)

    def test_what_is_left_given(self):
        ends = (given(P, R, NO), self.ENDS[1])
        step = (given(R, same(B, B), *self.STEP[0]), self.STEP[1])
        due = given(P, R, NO, same(B, B))
        self.holds("down", [ends, step], ("num", self.BODY, ((), ("a",))), due, ("all", "num", self.BODY))

    def test_what_other_steps_are_given_stays(self):
        """Each step may lean on the body opened by its own names alone."""
        ends = ((same(made("add", B, ZERO), B),), self.ENDS[1])
        due = ("all", "num", self.BODY)
        self.holds("down", [ends, self.STEP], ("num", self.BODY, ((), ("a",))), ends[0], due)
        one = same(made("add", B, ZERO), B)
        self.holds("down", [self.ENDS, (given(one, *self.STEP[0]), self.STEP[1])], ("num", self.BODY, ((), ("a",))), (one,), due)

    def test_names_of_other_kinds(self):
        body = same(made("len", X), made("len", X))
        cons = made("cons", A, AL)
        step = same(made("len", cons), made("len", cons))
        nil = ((), same(made("len", made("nil")), made("len", made("nil"))))
        on_a = same(made("len", AL), made("len", AL))
        due = ("all", "list", body)
        # The same letter with another kind is another name, but the names of one maker are unlike texts.
        self.breaks("down", [nil, ((on_a,), step)], "list", body, ((), ("a", "a")))
        cons = made("cons", B, AL)
        step = same(made("len", cons), made("len", cons))
        self.holds("down", [nil, ((on_a,), step)], ("list", body, ((), ("b", "a"))), (), due)
        self.holds("down", [nil, (given(on_a, same(A, A)), step)], ("list", body, ((), ("b", "a"))), (same(A, A),), due)
        self.holds("down", [nil, (given(on_a, same(BL, BL)), step)], ("list", body, ((), ("b", "a"))), (same(BL, BL),), due)
        self.breaks("down", [nil, (given(on_a, same(B, B)), step)], "list", body, ((), ("b", "a")))
        self.breaks("down", [nil, (given(on_a, same(AL, AL)), step)], "list", body, ((), ("b", "a")))

    def test_meant_nowhere(self):
        self.holds("down", [((), P), ((P,), P)], ("num", P, ((), ("b",))), (), ("all", "num", P))
        self.holds("down", [((P,), P), ((P,), P)], ("num", P, ((), ("b",))), (P,), ("all", "num", P))
        self.breaks("down", [((), P), ((P,), P)], "num", P, ((), ("a",)))
        # Only names of the kind itself take away what is given.
        body = same(A, A)
        self.holds("down", [((), body), ((body,), body)], ("list", body, ((), ("b", "c"))), (), ("all", "list", body))
        tip = [((), body), ((body,), body), ((body,), body), ((body,), body), ((body,), body), ((), body)]
        names = ((), ("b",), ("b",), ("b", "c"), ("b", "c", "d"), ("b", "c", "d", "e"))
        self.holds("down", tip, ("bush", body, names), (body,), ("all", "bush", body))

    def bush_steps(self):
        body = ("or", same(X, bush("z")), same(made("dots", ZERO, X), ZERO))
        parts = [(), (bush("a"),), (A,), (bush("a"), bush("b")), (A, bush("b"), C), (bush("a"), B, bush("c"), name("d", "list"))]
        steps = []
        for (maker, _), row in zip(BUSH[1], parts):
            made_one = made(maker, *row)
            on = [self.bush_saying(part) for part in row if part[2] == "bush"]
            steps.append((given(R, *on), self.bush_saying(made_one)))
        return body, steps, tuple(tuple(part[1] for part in row) for row in parts)

    def bush_saying(self, term):
        return ("or", same(term, bush("z")), same(made("dots", ZERO, term), ZERO))

    def test_six_makers_of_up_to_four_parts(self):
        body, steps, names = self.bush_steps()
        # R says something of c of the kind num, which the maker trio takes.
        self.breaks("down", steps, "bush", body, names)
        steps = [(tuple(saying for saying in one if saying != R), held) for one, held in steps]
        self.holds("down", steps, ("bush", body, names), (), ("all", "bush", body))
        for at in range(6):
            for wrong in (((), NO), ((), steps[at - 1][1])):
                self.breaks("down", steps[:at] + [wrong] + steps[at + 1:], "bush", body, names)
            self.breaks("down", steps[:at] + steps[at + 1:], "bush", body, names)
            self.breaks("down", steps[:at] + steps[at + 1:], "bush", body, names[:at] + names[at + 1:])
            self.breaks("down", steps, "bush", body, names[:at] + names[at + 1:])
            self.breaks("down", steps, "bush", body, names[:at] + (names[at] + ("e",),) + names[at + 1:])
            if names[at]:
                self.breaks("down", steps, "bush", body, names[:at] + (names[at][:-1],) + names[at + 1:])
                self.breaks("down", steps, "bush", body, names[:at] + (names[at][:-1] + ("f",),) + names[at + 1:])
                self.breaks("down", steps, "bush", body, names[:at] + (list(names[at]),) + names[at + 1:])
        self.breaks("down", steps + steps[-1:], "bush", body, names)
        self.breaks("down", steps + steps[-1:], "bush", body, names + names[-1:])
        self.breaks("down", steps[::-1], "bush", body, names)

    def test_each_thing_taken_of_the_kind_is_leaned_on(self):
        body, steps, names = self.bush_steps()
        steps = [(tuple(saying for saying in one if saying != R), held) for one, held in steps]
        on_b = self.bush_saying(bush("b"))
        for at, stays in ((0, True), (1, True), (2, True), (3, False), (4, False), (5, True)):
            more = steps[:at] + [(given(on_b, *steps[at][0]), steps[at][1])] + steps[at + 1:]
            self.holds("down", more, ("bush", body, names), (on_b,) if stays else (), ("all", "bush", body))

    def test_free_names(self):
        names = ((), ("a",))
        body = same(made("add", X, A), X)
        ends = ((), same(made("add", ZERO, A), ZERO))
        step = ((), same(made("add", self.NEXT, A), self.NEXT))
        self.breaks("down", [ends, step], "num", body, names)
        next_b = made("next", B)
        self.holds("down", [ends, ((), same(made("add", next_b, A), next_b))], ("num", body, ((), ("b",))), (), ("all", "num", body))
        for more in (P, Q, ("all", "num", same(X, A)), same(made("add", A, ZERO), ZERO)):
            self.breaks("down", [self.ENDS, (given(more, *self.STEP[0]), self.STEP[1])], "num", self.BODY, names)
        self.holds("down", [(given(P), self.ENDS[1]), self.STEP], ("num", self.BODY, names), (P,), ("all", "num", self.BODY))

    def test_brackets(self):
        names = ((), ("a",))
        for thing in NO_KINDS + ["thing"]:
            self.breaks("down", [self.ENDS, self.STEP], thing, self.BODY, names)
            self.breaks("down", [((), P), ((), P)], thing, P, ((), ("b",)))
        self.breaks("down", [], "thing", P, ())
        self.breaks("down", [], "spot", NO, ())
        for thing in NO_SAYINGS:
            self.breaks("down", [self.ENDS, self.STEP], "num", thing, names)
        for thing in NO_NAMES:
            self.breaks("down", [((), P), ((), P)], "num", P, ((), (thing,)))
        for thing in (None, 1, "a", [], [(), ("a",)], (), ((),), (("a",),), (("a",), ()), ((), ("a",), ()), ((), "a"),
                      ((), ["a"]), ([], ("a",)), ((), ("a", "b")), ((), ("b",)), ((), ("a", "a")), ((), ()), ("", "a")):
            self.breaks("down", [self.ENDS, self.STEP], "num", self.BODY, thing)

    def test_premises(self):
        names = ((), ("a",))
        self.breaks("down", [self.ENDS], "num", self.BODY, names)
        self.breaks("down", [self.STEP], "num", self.BODY, names)
        self.breaks("down", [], "num", self.BODY, names)
        self.breaks("down", [self.STEP, self.ENDS], "num", self.BODY, names)
        self.breaks("down", [self.ENDS, self.STEP, self.STEP], "num", self.BODY, names)
        self.breaks("down", [((), same(ZERO, ZERO)), self.STEP], "num", self.BODY, names)
        self.breaks("down", [self.ENDS, ((), same(made("add", num(1), ZERO), num(1)))], "num", self.BODY, names)
        self.breaks("down", [self.ENDS, ((), same(made("add", A, ZERO), A))], "num", self.BODY, names)

    def test_ground(self):
        self.assertEqual([len(takes) for _, takes in BUSH[1]], [0, 1, 1, 2, 3, 4])
        self.assertEqual(len(GROUND.makers("bush")), 6)


if __name__ == "__main__":
    unittest.main()
