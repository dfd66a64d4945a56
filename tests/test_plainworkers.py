import inspect
import random
import unittest

from goalsmith import plainworkers
from goalsmith.errors import Fails
from goalsmith.goals import is_goal
from goalsmith.grounds import Ground
from goalsmith.plainworkers import (
    Absurd,
    Alike,
    Apart,
    At,
    Both,
    Contrary,
    Cut,
    First,
    Fix,
    Given,
    Put,
    Second,
    Show,
    Suppose,
)
from goalsmith.reader import read_paper
from goalsmith.sayings import shut
from goalsmith.terms import kind_of
from goalsmith.workers import Worker
from tests import support
from tests.papersupport import (
    A,
    B,
    C,
    GROUND,
    NO,
    NO_KINDS,
    NO_NUMBERS,
    NO_SAYINGS,
    NO_TERMS,
    OTHER,
    P,
    Q,
    R,
    S,
    bound,
    given,
    nots,
    numbered,
    same,
)
from tests.support import ZERO, listed, made, name, num, wide
from tests.workersupport import SAYINGS, fails, fails_of_no_goals, fails_of_other_sayings, goal, works

X = bound(0)
AL, BL = name("a", "list"), name("b", "list")
ALL = ("all", "num", same(X, ZERO))
SOME = ("some", "num", same(X, ZERO))
# A saying of 200 signs, and one that is forty deep.
LARGE = same(wide(99), wide(100))
DEEP = nots(39)
TWENTY = numbered(20)


class WorkerTest(unittest.TestCase):
    def works(self, worker, one, *due):
        return works(self, worker, one, list(due))

    def fails(self, worker, one):
        fails(self, worker, one)


class TestWorker(WorkerTest):
    WORDS = "Given Alike Both First Second Suppose Fix Show Cut Contrary Absurd Apart At Put".split()

    def test_classes(self):
        for word in self.WORDS:
            one = getattr(plainworkers, word)
            self.assertEqual(one.__module__, "goalsmith.plainworkers")
            self.assertTrue(issubclass(one, Worker))
            for other in self.WORDS:
                self.assertEqual(issubclass(one, getattr(plainworkers, other)), one.__name__ == other)

    def test_what_they_are_made_of(self):
        due = {"Show": 1, "Cut": 1, "Apart": 1, "At": 2, "Put": 3}
        for word in self.WORDS:
            told = inspect.signature(getattr(plainworkers, word)).parameters
            self.assertEqual(len(told), due.get(word, 0), word)

    def test_a_worker_without_a_way(self):
        for one in (goal(P), goal(P, P), goal(same(A, A))):
            self.fails(Worker(), one)
        fails_of_no_goals(self, Worker())


class TestGiven(WorkerTest):
    def test_given(self):
        for saying in SAYINGS.values():
            self.works(Given(), goal(saying, saying))
            self.works(Given(), goal(saying, saying, R, S, NO))
        self.works(Given(), goal(TWENTY[7], *TWENTY))

    def test_the_way(self):
        _, way = self.works(Given(), goal(P, P))
        self.assertEqual(way, [("take", (), (P,))])

    def test_not_given(self):
        for saying in SAYINGS.values():
            self.fails(Given(), goal(saying))
            self.fails(Given(), goal(saying, R, ("not", saying)))
        self.fails(Given(), goal(same(AL, AL), same(A, A)))
        fails_of_no_goals(self, Given())


class TestAlike(WorkerTest):
    def test_alike(self):
        for term in (A, ZERO, AL, made("home"), made("twice", A)):
            self.works(Alike(), goal(same(term, term)))
            self.works(Alike(), goal(same(term, term), P, Q, NO))
        self.works(Alike(), goal(same(A, A), *TWENTY))

    def test_not_alike(self):
        for one, other in ((A, B), (ZERO, num(1)), (made("twice", ZERO), made("add", ZERO, ZERO))):
            self.fails(Alike(), goal(same(one, other)))
        fails_of_other_sayings(self, Alike(), "alike")
        self.fails(Alike(), goal(("not", same(A, A))))
        fails_of_no_goals(self, Alike())


class TestBoth(WorkerTest):
    def test_both(self):
        self.works(Both(), goal(("and", P, Q)), goal(P), goal(Q))
        self.works(Both(), goal(("and", Q, P), R, NO), goal(Q, R, NO), goal(P, R, NO))
        self.works(Both(), goal(("and", P, P), P), goal(P, P), goal(P, P))
        self.works(Both(), goal(("and", ("and", P, Q), ALL), *TWENTY), goal(("and", P, Q), *TWENTY), goal(ALL, *TWENTY))

    def test_fails(self):
        fails_of_other_sayings(self, Both(), "and")
        fails_of_no_goals(self, Both())


class TestFirstAndSecond(WorkerTest):
    def test_first_and_second(self):
        for more in ((), (R, NO), (P, Q), TWENTY):
            self.works(First(), goal(("or", P, Q), *more), goal(P, *more))
            self.works(Second(), goal(("or", P, Q), *more), goal(Q, *more))

    def test_fails(self):
        for worker in (First(), Second()):
            fails_of_other_sayings(self, worker, "or")
            fails_of_no_goals(self, worker)


class TestSuppose(WorkerTest):
    def test_so(self):
        self.works(Suppose(), goal(("so", P, Q)), goal(Q, P))
        self.works(Suppose(), goal(("so", P, Q), R, NO), goal(Q, P, R, NO))
        self.works(Suppose(), goal(("so", P, Q), P, R), goal(Q, P, R))
        self.works(Suppose(), goal(("so", P, P)), goal(P, P))

    def test_not(self):
        self.works(Suppose(), goal(("not", P)), goal(NO, P))
        self.works(Suppose(), goal(("not", P), R, NO), goal(NO, P, R, NO))
        self.works(Suppose(), goal(("not", P), P), goal(NO, P))
        self.works(Suppose(), goal(("not", ("not", P)), P), goal(NO, P, ("not", P)))

    def test_twenty_given(self):
        for saying, left in ((("so", R, Q), Q), (("not", R), NO)):
            self.works(Suppose(), goal(saying, *TWENTY[1:]), goal(left, R, *TWENTY[1:]))
            self.fails(Suppose(), goal(saying, *TWENTY))
        self.works(Suppose(), goal(("so", TWENTY[3], Q), *TWENTY), goal(Q, *TWENTY))
        self.works(Suppose(), goal(("not", TWENTY[3]), *TWENTY), goal(NO, *TWENTY))

    def test_fails(self):
        fails_of_other_sayings(self, Suppose(), "so", "not")
        fails_of_no_goals(self, Suppose())


class TestFix(WorkerTest):
    def test_fix(self):
        self.works(Fix(), goal(ALL), goal(same(name("a"), ZERO)))
        self.works(Fix(), goal(("all", "list", same(X, X)), NO), goal(same(AL, AL), NO))
        inner = ("all", "num", same(X, bound(1)))
        self.works(Fix(), goal(("all", "num", inner)), goal(("all", "num", same(X, A))))

    def test_meant_nowhere(self):
        self.works(Fix(), goal(("all", "thing", NO)), goal(NO))
        self.works(Fix(), goal(("all", "num", P), P), goal(P, P))

    def test_new_names(self):
        """Names of any kind, in the saying or in what is given, are left out."""
        self.works(Fix(), goal(("all", "num", same(X, A))), goal(same(B, A)))
        self.works(Fix(), goal(ALL, P), goal(same(B, ZERO), P))
        self.works(Fix(), goal(ALL, same(AL, AL)), goal(same(B, ZERO), same(AL, AL)))
        self.works(Fix(), goal(ALL, SAYINGS["all"], same(BL, BL)), goal(same(C, ZERO), SAYINGS["all"], same(BL, BL)))
        taken = [same(name(x), name(x)) for x in "abcdefghijklmnop"]
        rest = made("cons", name("q"), made("cons", name("r"), made("cons", name("s"), made("cons", name("t"), AL))))
        saying = same(rest, made("cons", name("u"), made("cons", name("v"), made("cons", name("w"), AL))))
        more = [saying, same(name("x", "thing"), name("y", "thing")), same(name("z", "spot"), name("z", "spot"))]
        self.works(Fix(), goal(ALL, *taken, *more), goal(same(name("aa"), ZERO), *taken, *more))

    def test_twenty_given(self):
        self.works(Fix(), goal(ALL, *TWENTY), goal(same(B, ZERO), *TWENTY))

    def test_fails(self):
        fails_of_other_sayings(self, Fix(), "all")
        fails_of_no_goals(self, Fix())


class TestShow(WorkerTest):
    def test_show(self):
        self.works(Show(ZERO), goal(SOME), goal(same(ZERO, ZERO)))
        self.works(Show(A), goal(SOME, P, NO), goal(same(A, ZERO), P, NO))
        self.works(Show(listed(A)), goal(("some", "list", same(X, AL))), goal(same(listed(A), AL)))
        inner = ("some", "num", ("all", "num", same(X, bound(1))))
        self.works(Show(num(2)), goal(inner), goal(("all", "num", same(X, num(2)))))

    def test_meant_nowhere(self):
        self.works(Show(ZERO), goal(("some", "num", P)), goal(P))
        self.works(Show(wide(700)), goal(("some", "tree", P)), goal(P))
        self.fails(Show(ZERO), goal(("some", "list", P)))

    def test_no_term_of_the_kind(self):
        for thing in NO_TERMS + [support.Alike(), AL, made("nil"), made("home")]:
            self.fails(Show(thing), goal(SOME))
            self.fails(Show(thing), goal(("some", "num", P)))

    def test_what_is_bound_elsewhere_is_no_term(self):
        for k in range(3):
            self.fails(Show(bound(k)), goal(("some", "num", ("all", "num", same(bound(1), X)))))
            self.fails(At(0, bound(k)), goal(R, ("all", "num", ("all", "num", same(bound(1), X)))))

    def test_great(self):
        some = ("some", "tree", same(X, made("leaf")))
        self.works(Show(wide(198)), goal(some), goal(same(wide(198), made("leaf"))))
        self.fails(Show(wide(199)), goal(some))
        self.works(Show(num(38)), goal(SOME), goal(same(num(38), ZERO)))
        self.fails(Show(num(39)), goal(SOME))

    def test_fails(self):
        fails_of_other_sayings(self, Show(ZERO), "some")
        fails_of_no_goals(self, Show(ZERO))


class TestCut(WorkerTest):
    def test_cut(self):
        for saying in SAYINGS.values():
            self.works(Cut(R), goal(saying), goal(R), goal(saying, R))
            self.works(Cut(R), goal(saying, S, NO), goal(R, S, NO), goal(saying, R, S, NO))
            self.works(Cut(saying), goal(R), goal(saying), goal(R, saying))

    def test_of_what_is_given(self):
        self.works(Cut(R), goal(P, R, S), goal(R, R, S), goal(P, R, S))
        self.works(Cut(P), goal(P), goal(P), goal(P, P))
        self.works(Cut(P), goal(P, P), goal(P, P), goal(P, P))

    def test_no_saying(self):
        for thing in NO_SAYINGS + [support.Alike()]:
            self.fails(Cut(thing), goal(P))
            self.fails(Cut(thing), goal(P, P))

    def test_great(self):
        self.works(Cut(LARGE), goal(LARGE), goal(LARGE), goal(LARGE, LARGE))
        self.works(Cut(DEEP), goal(DEEP), goal(DEEP), goal(DEEP, DEEP))
        self.works(Cut(DEEP), goal(P), goal(DEEP), goal(P, DEEP))
        self.fails(Cut(("not", LARGE)), goal(P))
        self.fails(Cut(("not", DEEP)), goal(P))

    def test_twenty_given(self):
        self.works(Cut(R), goal(P, *TWENTY[1:]), goal(R, *TWENTY[1:]), goal(P, R, *TWENTY[1:]))
        self.works(Cut(TWENTY[5]), goal(P, *TWENTY), goal(TWENTY[5], *TWENTY), goal(P, *TWENTY))
        self.fails(Cut(R), goal(P, *TWENTY))
        fails_of_no_goals(self, Cut(P))


class TestContrary(WorkerTest):
    def test_contrary(self):
        for saying in SAYINGS.values():
            self.works(Contrary(), goal(saying), goal(NO, ("not", saying)))
            self.works(Contrary(), goal(saying, R, NO), goal(NO, ("not", saying), R, NO))
            self.works(Contrary(), goal(saying, ("not", saying), R), goal(NO, ("not", saying), R))

    def test_great(self):
        self.fails(Contrary(), goal(LARGE))
        self.fails(Contrary(), goal(DEEP))
        large = same(wide(99), wide(99))
        self.works(Contrary(), goal(large), goal(NO, ("not", large)))
        self.works(Contrary(), goal(nots(38)), goal(NO, DEEP))

    def test_twenty_given(self):
        self.works(Contrary(), goal(P, *TWENTY[1:]), goal(NO, ("not", P), *TWENTY[1:]))
        self.fails(Contrary(), goal(R, *TWENTY))
        fails_of_no_goals(self, Contrary())


class TestAbsurd(WorkerTest):
    def test_absurd(self):
        for saying in list(SAYINGS.values()) + [LARGE, DEEP]:
            self.works(Absurd(), goal(saying), goal(NO))
            self.works(Absurd(), goal(saying, R, NO), goal(NO, R, NO))
            self.works(Absurd(), goal(saying, *TWENTY), goal(NO, *TWENTY))
        fails_of_no_goals(self, Absurd())


class TestApart(WorkerTest):
    def apart(self, saying, one, *due):
        """Put to the saying, given with others, by its number."""
        self.works(Apart(one[0].index(saying)), one, *due)

    def fails_apart(self, saying, one):
        self.fails(Apart(one[0].index(saying)), one)

    def test_and(self):
        both = ("and", P, Q)
        self.apart(both, goal(R, both), goal(R, both, P, Q))
        self.apart(both, goal(R, both, NO, S), goal(R, both, NO, S, P, Q))
        self.apart(both, goal(R, both, P), goal(R, both, P, Q))
        self.apart(both, goal(R, both, P, Q), goal(R, both, P, Q))
        self.apart(both, goal(both, both), goal(both, both, P, Q))
        for twice in (("and", P, P), ("and", P, ("and", P, P))):
            self.apart(twice, goal(R, twice), goal(R, twice, *twice[1:]))

    def test_or(self):
        choice = ("or", P, Q)
        self.apart(choice, goal(R, choice), goal(R, choice, P), goal(R, choice, Q))
        self.apart(choice, goal(R, choice, NO, S), goal(R, choice, NO, S, P), goal(R, choice, NO, S, Q))
        self.apart(choice, goal(R, choice, P), goal(R, choice, P), goal(R, choice, P, Q))
        self.apart(choice, goal(choice, choice), goal(choice, choice, P), goal(choice, choice, Q))
        self.apart(("or", P, P), goal(R, ("or", P, P)), goal(R, ("or", P, P), P), goal(R, ("or", P, P), P))

    def test_some(self):
        self.apart(SOME, goal(P, SOME), goal(P, SOME, same(B, ZERO)))
        self.apart(SOME, goal(R, SOME, S), goal(R, SOME, S, same(A, ZERO)))
        on_list = ("some", "list", same(X, AL))
        self.apart(on_list, goal(R, on_list, P), goal(R, on_list, P, same(BL, AL)))
        self.apart(SOME, goal(same(AL, AL), SOME), goal(same(AL, AL), SOME, same(B, ZERO)))
        self.apart(SOME, goal(NO, SOME, same(AL, BL)), goal(NO, SOME, same(AL, BL), same(C, ZERO)))
        nowhere = ("some", "num", P)
        self.apart(nowhere, goal(R, nowhere), goal(R, nowhere, P))
        self.apart(nowhere, goal(R, nowhere, P), goal(R, nowhere, P))

    def test_so(self):
        so = ("so", P, Q)
        self.apart(so, goal(R, so), goal(P, so), goal(R, so, Q))
        self.apart(so, goal(R, so, NO, S), goal(P, so, NO, S), goal(R, so, NO, S, Q))
        self.apart(so, goal(R, so, Q), goal(P, so, Q), goal(R, so, Q))
        self.apart(so, goal(R, so, P), goal(P, so, P), goal(R, so, P, Q))
        self.apart(so, goal(so, so), goal(P, so), goal(so, so, Q))
        self.apart(("so", P, P), goal(R, ("so", P, P)), goal(P, ("so", P, P)), goal(R, ("so", P, P), P))

    def test_not(self):
        denied = ("not", P)
        self.apart(denied, goal(NO, denied), goal(P, denied))
        self.apart(denied, goal(NO, denied, R, S), goal(P, denied, R, S))
        self.apart(denied, goal(NO, denied, P), goal(P, denied, P))
        for saying in SAYINGS.values():
            if saying != NO:
                self.fails_apart(denied, goal(saying, denied))

    def test_no(self):
        for saying in SAYINGS.values():
            self.apart(NO, goal(saying, NO))
            self.apart(NO, goal(saying, NO, R, S))

    def test_same_by_unlike_makers(self):
        for one in (same(ZERO, num(1)), same(made("next", A), ZERO), same(made("nil"), listed(A))):
            self.apart(one, goal(R, one))
            self.apart(one, goal(NO, one, R, S))

    def test_same_by_one_maker(self):
        one = same(made("next", A), num(1))
        self.apart(one, goal(R, one), goal(R, one, P))
        self.apart(one, goal(R, one, P, S), goal(R, one, P, S))
        one = same(made("cons", A, AL), made("cons", B, BL))
        self.apart(one, goal(R, one, S), goal(R, one, S, same(A, B), same(AL, BL)))
        one = same(made("fork", name("a", "tree"), name("b", "tree")), made("fork", made("leaf"), made("leaf")))
        parts = [same(name(x, "tree"), made("leaf")) for x in "ab"]
        self.apart(one, goal(R, one), goal(R, one, *parts))
        bush = [name(x, "bush") for x in "abcd"]
        one = same(made("quad", bush[0], A, bush[1], AL), made("quad", bush[2], B, bush[3], BL))
        self.apart(one, goal(R, one), goal(R, one, same(bush[0], bush[2]), same(A, B), same(bush[1], bush[3]), same(AL, BL)))
        one = same(made("twin", bush[0], bush[0]), made("twin", bush[1], bush[1]))
        self.apart(one, goal(R, one), goal(R, one, same(bush[0], bush[1])))

    def test_same_that_is_not_taken_apart(self):
        for one in (same(ZERO, ZERO), same(made("nil"), made("nil")), P, Q, same(made("next", A), A), same(ZERO, made("one")),
                    same(made("twice", A), made("twice", B)), same(made("one"), num(1)), same(made("home"), made("home"))):
            self.fails_apart(one, goal(R, one))
            self.fails_apart(one, goal(NO, one))

    def test_all_is_not_taken_apart(self):
        self.fails_apart(ALL, goal(R, ALL))
        self.fails_apart(ALL, goal(NO, ALL))

    def test_by_the_number(self):
        sayings = given(("and", P, Q), ("and", Q, P), ("or", R, S), NO)
        self.works(Apart(0), (sayings, R), goal(R, *sayings, P, Q))
        self.works(Apart(1), (sayings, R), goal(R, *sayings, P, Q))
        self.works(Apart(2), (sayings, R))
        self.works(Apart(3), (sayings, R), goal(R, *sayings, R), goal(R, *sayings, S))
        for thing in NO_NUMBERS + [4, 5, 10 ** 40, support.Alike(), object()]:
            self.fails(Apart(thing), (sayings, R))
        self.fails(Apart(0), goal(R))

    def test_twenty_given(self):
        for saying, due in ((("or", R, S), [[R], [S]]), (("so", P, R), [[], [R]]), (SOME, [[same(B, ZERO)]])):
            rest = TWENTY[:18]
            if due[0]:
                self.apart(saying, goal(R, saying, *rest), *[goal(R, saying, *rest, *more) for more in due])
            else:
                self.apart(saying, goal(R, saying, *rest), goal(P, saying, *rest), goal(R, saying, R, *rest))
        one = goal(R, ("and", R, S), *TWENTY[1:18])
        self.apart(("and", R, S), one, goal(R, ("and", R, S), R, S, *TWENTY[1:18]))
        self.fails_apart(("and", R, S), goal(R, ("and", R, S), *TWENTY[1:19]))
        for saying in (("or", R, S), ("or", TWENTY[1], S), ("or", S, TWENTY[1]), SOME, ("so", P, R)):
            self.fails_apart(saying, goal(R, saying, *TWENTY[1:20]))
        one = same(made("cons", C, AL), made("cons", B, BL))
        self.apart(one, goal(R, one, *TWENTY[:17]), goal(R, one, same(C, B), same(AL, BL), *TWENTY[:17]))
        self.fails_apart(one, goal(R, one, *TWENTY[:19]))
        both = ("and", TWENTY[3], TWENTY[4])
        self.apart(both, goal(R, both, *TWENTY[1:20]), goal(R, both, *TWENTY[1:20]))
        denied = ("not", P)
        self.apart(denied, goal(NO, denied, *TWENTY[1:20]), goal(P, denied, *TWENTY[1:20]))
        self.apart(NO, goal(R, NO, *TWENTY[1:20]))

    def test_large_sayings(self):
        half = same(wide(49), wide(49))
        for word in ("and", "or", "so"):
            saying = (word, half, same(wide(48), wide(51)))
            one = goal(LARGE, saying)
            told, _ = Apart(0).work(GROUND, one)
            works(self, Apart(0), one, told)

    def test_no_goals(self):
        fails_of_no_goals(self, Apart(0))


class TestAt(WorkerTest):
    def test_at(self):
        self.works(At(0, ZERO), goal(R, ALL), goal(R, ALL, same(ZERO, ZERO)))
        self.works(At(0, A), goal(P, ALL), goal(P, ALL, P))
        sayings = given(ALL, P, S, NO)
        self.works(At(sayings.index(ALL), B), (sayings, R), goal(R, *sayings, same(B, ZERO)))
        on_list = ("all", "list", ("some", "num", same(made("len", bound(1)), X)))
        self.works(At(0, AL), goal(R, on_list), goal(R, on_list, ("some", "num", same(made("len", AL), X))))

    def test_given_already(self):
        sayings = given(ALL, P)
        self.works(At(sayings.index(ALL), A), (sayings, R), goal(R, ALL, P))
        nowhere = ("all", "num", P)
        self.works(At(0, ZERO), goal(R, nowhere), goal(R, nowhere, P))

    def test_of_others(self):
        for word, saying in SAYINGS.items():
            if word != "all":
                self.fails(At(0, ZERO), goal(R, saying))
        self.fails(At(0, ZERO), goal(R, ("not", ALL)))

    def test_numbers(self):
        sayings = given(ALL, ("all", "list", NO))
        for thing in NO_NUMBERS + [2, 3, 10 ** 40, support.Alike(), object()]:
            self.fails(At(thing, ZERO), (sayings, R))
            self.fails(At(thing, AL), (sayings, R))
        self.fails(At(0, ZERO), goal(R))

    def test_no_term_of_the_kind(self):
        for thing in NO_TERMS + [support.Alike(), AL, made("home")]:
            self.fails(At(0, thing), goal(R, ALL))
            self.fails(At(0, thing), goal(R, ("all", "num", P)))

    def test_great_and_twenty_given(self):
        self.works(At(0, num(38)), goal(R, ALL), goal(R, ALL, same(num(38), ZERO)))
        self.fails(At(0, num(39)), goal(R, ALL))
        every = ("all", "tree", same(X, made("leaf")))
        self.works(At(0, wide(198)), goal(R, every), goal(R, every, same(wide(198), made("leaf"))))
        self.fails(At(0, wide(199)), goal(R, every))
        self.works(At(0, wide(800)), goal(R, ("all", "tree", P)), goal(R, ("all", "tree", P), P))
        self.works(At(0, C), goal(R, ALL, *TWENTY[:18]), goal(R, ALL, same(C, ZERO), *TWENTY[:18]))
        self.fails(At(0, C), goal(R, ALL, *TWENTY[:19]))
        self.works(At(0, A), goal(R, ALL, *TWENTY[:19]), goal(R, ALL, *TWENTY[:19]))
        fails_of_no_goals(self, At(0, ZERO))


class TestPut(WorkerTest):
    BODY = same(B, X)

    def test_put(self):
        self.works(Put(0, "num", same(B, X)), goal(same(B, ZERO), P), goal(same(B, A), P))
        sayings = given(P, Q, R, NO)
        self.works(Put(sayings.index(P), "num", same(X, C)), (sayings, same(ZERO, C)), (sayings, same(A, C)))
        body = ("all", "list", same(made("len", X), bound(1)))
        self.works(Put(0, "num", body), goal(("all", "list", same(made("len", X), ZERO)), P),
                   goal(("all", "list", same(made("len", X), A)), P))

    def test_not_all_places_are_meant(self):
        saying = same(made("add", ZERO, ZERO), ZERO)
        for body, due in ((same(made("add", X, ZERO), X), same(made("add", A, ZERO), A)),
                          (same(made("add", ZERO, ZERO), X), same(made("add", ZERO, ZERO), A)), (saying, saying)):
            self.works(Put(0, "num", body), goal(saying, P), goal(due, P))

    def test_only_from_right_to_left(self):
        self.fails(Put(0, "num", self.BODY), goal(same(B, A), P))
        self.fails(Put(0, "num", self.BODY), goal(same(B, C), P))
        self.fails(Put(0, "num", self.BODY), goal(NO, P))

    def test_of_others(self):
        for saying in (NO, ("not", P), ("and", P, P), ("all", "num", same(X, ZERO)), SOME):
            self.fails(Put(0, "num", self.BODY), goal(same(B, ZERO), saying))

    def test_numbers(self):
        for thing in NO_NUMBERS + [2, 3, 10 ** 40, support.Alike(), object()]:
            self.fails(Put(thing, "num", self.BODY), goal(same(B, ZERO), P, S))
        self.fails(Put(0, "num", self.BODY), goal(same(B, ZERO)))

    def test_kinds_and_bodies(self):
        one = goal(same(B, ZERO), P)
        for thing in NO_KINDS + [support.Alike()]:
            self.fails(Put(0, thing, self.BODY), one)
            self.fails(Put(0, thing, same(B, ZERO)), one)
        for thing in NO_SAYINGS + [support.Alike(), ["same", B, X], same(AL, X)]:
            self.fails(Put(0, "num", thing), one)
        self.fails(Put(0, "list", same(B, ZERO)), one)
        self.fails(Put(0, "num", same(B, ZERO)), goal(same(B, ZERO), same(AL, AL)))
        self.works(Put(0, "list", same(B, ZERO)), goal(same(B, ZERO), same(AL, AL)), goal(same(B, ZERO), same(AL, AL)))

    def test_great(self):
        self.works(Put(0, "num", same(B, X)), goal(same(B, A), same(num(38), A)), goal(same(B, num(38)), same(num(38), A)))
        body = same(B, made("next", X))
        self.works(Put(0, "num", body), goal(same(B, made("next", A)), same(num(37), A)), goal(same(B, num(38)), same(num(37), A)))
        self.fails(Put(0, "num", body), goal(same(B, made("next", A)), same(num(38), A)))
        a = name("a", "tree")
        large = same(wide(98), a)
        body = same(made("fork", X, X), a)
        self.works(Put(0, "tree", body), goal(same(made("fork", a, a), a), large), goal(same(made("fork", wide(98), wide(98)), a), large))
        large = same(wide(99), a)
        self.fails(Put(0, "tree", body), goal(same(made("fork", a, a), a), large))
        self.assertIn(P, TWENTY)
        at = sorted(TWENTY).index(P)
        self.works(Put(at, "num", self.BODY), goal(same(B, ZERO), *TWENTY), goal(same(B, A), *TWENTY))
        fails_of_no_goals(self, Put(0, "num", self.BODY))


class TestByChance(WorkerTest):
    """Goals and workers taken by chance, from a fixed seed: each way reads to just the goal."""

    TERMS = [A, B, ZERO, num(1), made("next", A), made("one"), AL, made("nil"), listed(A), listed(ZERO, B)]

    def saying(self, chance, deep, around=()):
        word = chance.choice(["same", "same", "no", "not", "and", "or", "so", "all", "some"] if deep else ["same", "same", "no"])
        if word == "same":
            kind = chance.choice(["num", "list"])
            terms = [term for term in self.TERMS if kind_of(GROUND, term) == kind]
            terms += [bound(at) for at, one in enumerate(around) if one == kind] * 3
            return same(chance.choice(terms), chance.choice(terms))
        if word in ("all", "some"):
            kind = chance.choice(["num", "list"])
            return (word, kind, self.saying(chance, deep - 1, (kind,) + around))
        return (word,) + tuple(self.saying(chance, deep - 1, around) for _ in range({"no": 0, "not": 1}.get(word, 2)))

    def worker(self, chance, one):
        at, term = chance.randrange(4), chance.choice(self.TERMS)
        saying = chance.choice(one[0] + (self.saying(chance, 1),))
        kind = chance.choice(["num", "list"])
        body = shut(one[1], chance.choice("ab"), kind)
        return chance.choice([Given(), Alike(), Both(), First(), Second(), Suppose(), Fix(), Show(term), Cut(saying), Contrary(),
                              Absurd(), Apart(at), Apart(at), Apart(at), At(at, term), At(at, term), Put(at, kind, body)])

    def test_ways(self):
        chance = random.Random(7)
        done = {}
        for _ in range(4000):
            one = goal(self.saying(chance, 2), *[self.saying(chance, 2) for _ in range(chance.randrange(5))])
            for _ in range(3):
                worker = self.worker(chance, one)
                try:
                    told, way = worker.work(GROUND, one)
                except Fails:
                    break
                self.assertEqual(read_paper(GROUND, told, way), ("held",) + one)
                self.assertTrue(all(is_goal(GROUND, left) for left in told))
                done[worker.__class__.__name__] = done.get(worker.__class__.__name__, 0) + 1
                if not told:
                    break
                one = chance.choice(told)
        self.assertEqual(sorted(done), sorted(TestWorker.WORDS))


class TestKeptNothing(WorkerTest):
    def test_several_goals_and_grounds(self):
        """A worker put to several goals tells each time what a new one tells."""
        few = Ground([("num", [("zero", []), ("next", ["num"])]), ("odd", [])], [])
        makers = [lambda: Fix(), lambda: Apart(0), lambda: At(0, A), lambda: Put(0, "num", same(B, X)), lambda: Show(ZERO),
                  lambda: Cut(P), lambda: Suppose(), lambda: Contrary(), lambda: Given(), lambda: Both()]
        rows = [(GROUND, goal(ALL, P)), (few, goal(ALL, SOME, ground=few)), (OTHER, goal(NO, ("and", P, Q), ground=OTHER)),
                (GROUND, goal(same(B, ZERO), P)), (few, goal(same(B, ZERO), P, ground=few)), (GROUND, goal(SOME, ALL)),
                (few, goal(("so", P, Q), ALL, ground=few)), (GROUND, goal(same(made("one"), ZERO), Q)), (few, ((), same(made("one"), ZERO)))]
        for make in makers:
            worker = make()
            for ground, one in rows + rows[::-1]:
                self.assertEqual(self.told(worker, ground, one), self.told(make(), ground, one))

    def told(self, worker, ground, one):
        try:
            return worker.work(ground, one)
        except ValueError as error:
            return error.__class__


if __name__ == "__main__":
    unittest.main()
