import inspect
import itertools
import sys
import time
import unittest

from goalsmith.cases import ByCases, ByMakers
from goalsmith.errors import Fails, NoText
from goalsmith.finder import Finder
from goalsmith.goingdown import Down
from goalsmith.grounds import Ground
from goalsmith.joined import Again, Else, Then
from goalsmith.kernel import Kernel
from goalsmith.plainworkers import (
    Absurd,
    Alike,
    Apart,
    At,
    Both,
    Contrary,
    Cut,
    First,
    Fix,
    Given,
    Put,
    Second,
    Show,
    Suppose,
)
from goalsmith.resting import Rewrite
from goalsmith.rows import ByRows
from goalsmith.sayings import opened
from goalsmith.termtexts import show_term
from goalsmith.workers import Worker
from goalsmith.works import names_named, read_work
from tests.papersupport import A, B, C, GROUND, NO, OTHER, P, Q, R, bound, nots, same
from tests.rulesupport import alls, taken
from tests.support import THINGS, ZERO, Alike as AlikeThing, changed_texts, listed, made, name, num, refused, wide
from tests.workersupport import fails, fails_of_no_goals, goal, reads, works

X, Y = bound(0), bound(1)
AL = name("a", "list")
KERNEL = Kernel(GROUND)


def add(one, other):
    return made("add", one, other)


def all_zero():
    """All x. add(zero, x) = x, with nothing given and nothing lent."""
    return KERNEL.by_each(KERNEL.by_equation(add(ZERO, A)), "a", "num")


def next_of_one():
    """next(zero) = one, that is to be turned."""
    return KERNEL.by_put(KERNEL.by_equation(made("one")), KERNEL.by_alike(made("one")), "num", same(X, made("one")))


HELD = {"zero": all_zero(), "ones": next_of_one(), "no": None, "given": KERNEL.by_alike(ZERO)}


class WorksTest(unittest.TestCase):
    def told(self, worker, one, ground=GROUND):
        try:
            return worker.work(ground, one)[0]
        except Fails:
            return "fails"

    def does_as(self, text, worker, *goals, held=HELD):
        """What is read does as the worker does, put to each of these goals; some of them it takes on."""
        read = read_work(GROUND, text, held)
        self.assertIsInstance(read, Worker)
        done = 0
        for one in goals:
            due = self.told(worker, one)
            self.assertEqual(self.told(read, one), due, (text, one))
            if due != "fails":
                reads(self, GROUND, one, *read.work(GROUND, one))
                done += 1
            else:
                fails(self, read, one)
        fails_of_no_goals(self, read)
        self.assertGreater(done, 0)

    def none(self, *texts, held=HELD):
        for text in texts:
            refused(self, NoText, read_work, GROUND, text, held)


SOME_GOALS = [
    goal(P, P), goal(P), goal(same(A, A)), goal(("and", P, Q), P), goal(("or", P, Q), Q), goal(("so", P, Q)), goal(("not", P)), goal(NO, P, ("not", P)),
    goal(("all", "num", same(X, ZERO))), goal(("some", "num", same(X, ZERO))), goal(("or", P, ("not", P))), goal(P, ("and", P, Q), ("or", Q, R)),
    goal(Q, ("all", "num", same(X, A)), P), goal(same(add(A, B), B), same(C, A), same(A, B)), goal(same(add(ZERO, A), made("one"))),
]


class TestWords(WorksTest):
    def test_words_alone(self):
        for text, worker in (("given", Given()), ("alike", Alike()), ("both", Both()), ("first", First()), ("second", Second()), ("suppose", Suppose()),
                             ("fix", Fix()), ("contrary", Contrary()), ("absurd", Absurd()), ("rows", ByRows())):
            self.does_as(text, worker, *SOME_GOALS)

    def test_words_with_terms(self):
        self.does_as("show [zero]", Show(ZERO), *SOME_GOALS)
        self.does_as("show [add(next(a:num), twice(b:num))]", Show(add(made("next", A), made("twice", B))), *SOME_GOALS)
        self.does_as("at 0 [zero]", At(0, ZERO), *SOME_GOALS)
        self.does_as("at 1 [next(b:num)]", At(1, made("next", B)), goal(Q, ("all", "num", same(X, A)), ("all", "num", same(X, X))), *SOME_GOALS)
        self.does_as("makers [a:num]", ByMakers(A), *SOME_GOALS)
        self.does_as("makers [cons(a:num, nil)]", ByMakers(listed(A)), *SOME_GOALS)

    def test_words_with_sayings(self):
        self.does_as("cut [a:num = zero]", Cut(P), *SOME_GOALS)
        self.does_as("cut [all x:num. (x:num = zero so no)]", Cut(("all", "num", ("so", same(X, ZERO), NO))), *SOME_GOALS)
        self.does_as("cases [(a:num = zero or no)]", ByCases(("or", P, NO)), *SOME_GOALS)
        self.does_as("cases [no]", ByCases(NO), *SOME_GOALS)

    def test_words_with_numbers(self):
        for number in (0, 1, 2):
            self.does_as(f"apart {number}", Apart(number), *SOME_GOALS, goal(NO, ("not", P), ("not", Q), ("not", R)))
        ten = goal(P, *[same(C, num(at)) for at in range(10)], ("and", P, Q), ("not", NO))
        for number in range(12):
            if one_works(Apart(number), ten):
                self.does_as(f"apart {number}", Apart(number), ten)
        for text in ("apart 7", "apart 10", "apart 999999999999999999999999", "at 12 [zero]", "put 10 0", "put 0 10", "put 0 " + "9" * 3000):
            fails(self, read_work(GROUND, text, HELD), goal(P, Q))

    def test_down(self):
        saying = same(add(A, B), add(B, A))
        self.does_as("down a:num", Down("a", "num", []), goal(saying), *SOME_GOALS)
        self.does_as("down a:num, b:num", Down("a", "num", [("b", "num")]), goal(saying), *SOME_GOALS)
        self.does_as("down a:list, a:num, c:thing, zzzzzzzz:spot", Down("a", "list", [("a", "num"), ("c", "thing"), ("zzzzzzzz", "spot")]), goal(same(AL, listed(A))))
        for text in ("down a:thing", "down a:num, a:num", "down a:num, b:num, b:num"):
            fails(self, read_work(GROUND, text, HELD), goal(NO))

    def test_rest(self):
        one, two = goal(same(add(ZERO, A), made("one"))), goal(same(add(num(2), num(1)), made("twice", made("one"))))
        self.does_as("rest add", Rewrite([("add", 0), ("add", 1)]), one, two, *SOME_GOALS)
        self.does_as("rest one", Rewrite([("one", 0)]), one, two)
        self.does_as("rest add one", Rewrite([("add", 0), ("add", 1), ("one", 0)]), one, two)
        self.does_as("rest one twice add", Rewrite([("one", 0), ("twice", 0), ("add", 0), ("add", 1)]), one, two)
        self.does_as("rest @zero", Rewrite([(HELD["zero"], False)]), one)
        self.does_as("rest one @zero", Rewrite([("one", 0), (HELD["zero"], False)]), one)
        self.does_as("rest @zero one", Rewrite([(HELD["zero"], False), ("one", 0)]), one)
        self.does_as("rest add @ones<", Rewrite([("add", 0), ("add", 1), (HELD["ones"], True)]), one)
        fails(self, read_work(GROUND, "rest @ones", HELD), goal(same(num(2), made("one"))))
        self.does_as("rest @ones< @zero", Rewrite([(HELD["ones"], True), (HELD["zero"], False)]), one)
        self.does_as("rest love add", Rewrite([("add", 0), ("add", 1)]), one)
        fails(self, read_work(GROUND, "rest love", HELD), one)
        fails(self, read_work(GROUND, "rest @given", HELD), one)
        fails(self, read_work(GROUND, "rest add @given", HELD), one)

    def test_a_work_called_like_a_word(self):
        ground = Ground([("num", [("zero", []), ("next", ["num"])])], [("given", [], "num", None, [ZERO]), ("rest", [], "num", None, [made("given")])])
        one = goal(same(made("rest"), made("given")), ground=ground)
        works(self, read_work(ground, "rest rest", {}), one, [], ground)
        works(self, read_work(ground, "rest given", {}), one, [goal(same(made("rest"), ZERO), ground=ground)], ground)
        works(self, read_work(ground, "rest rest given ; given", {}), one, [], ground)

    def test_texts_of_the_ground(self):
        text = "show [next(nil)]"
        self.none(text, "show [what]", "show [a:what]", "makers [next]", "cut [zero = nil]", "rest what", "down a:what")
        refused(self, NoText, read_work, OTHER, "rest add", {})
        refused(self, NoText, read_work, OTHER, "cut [add(a:num, a:num) = a:num]", {})
        self.assertEqual(self.told(read_work(OTHER, "show [next(zero)]", {}), goal(("some", "num", same(X, X)), ground=OTHER), OTHER),
                         [goal(same(num(1), num(1)), ground=OTHER)])


def one_works(worker, one):
    try:
        worker.work(GROUND, one)
    except Fails:
        return False
    return True


class TestPut(WorksTest):
    """put K N: the N-th place, from 0, from the left, at which t stands."""

    def test_at_each_place(self):
        saying = ("and", same(add(B, A), add(add(B, C), B)), ("all", "num", ("some", "list", ("not", same(add(B, Y), B)))))
        bodies = [
            ("and", same(add(X, A), add(add(B, C), B)), saying[2]),
            ("and", same(add(B, A), add(add(X, C), B)), saying[2]),
            ("and", same(add(B, A), add(add(B, C), X)), saying[2]),
            ("and", saying[1], ("all", "num", ("some", "list", ("not", same(add(bound(2), Y), B))))),
            ("and", saying[1], ("all", "num", ("some", "list", ("not", same(add(B, Y), bound(2)))))),
        ]
        one = goal(saying, same(ZERO, B), NO)
        at = one[0].index(same(ZERO, B))
        for place, body in enumerate(bodies):
            self.does_as(f"put {at} {place}", Put(at, "num", body), one)
        for place in (5, 6, 60):
            fails(self, read_work(GROUND, f"put {at} {place}", HELD), one)

    def test_greater_terms(self):
        saying = same(made("next", add(A, B)), add(add(A, B), add(B, A)))
        one = goal(saying, same(C, add(A, B)))
        self.does_as("put 0 0", Put(0, "num", same(made("next", X), saying[2])), one)
        self.does_as("put 0 1", Put(0, "num", same(saying[1], add(X, add(B, A)))), one)
        fails(self, read_work(GROUND, "put 0 2", HELD), one)

    def test_kinds(self):
        one = goal(same(AL, made("cons", A, AL)), same(made("nil"), AL))
        self.does_as("put 0 1", Put(0, "list", same(AL, made("cons", A, X))), one)
        self.does_as("put 0 0", Put(0, "list", same(X, made("cons", A, AL))), one)

    def test_fails(self):
        one = goal(same(B, B), P, ("not", P))
        for text in ("put 0 0", "put 1 0", "put 2 0"):
            fails(self, read_work(GROUND, text, HELD), one)
        fails(self, read_work(GROUND, "put 0 0", HELD), goal(same(B, B)))
        self.does_as("put 0 0", Put(0, "num", same(X, B)), goal(same(B, B), same(A, B)))


class TestUse(WorksTest):
    def used(self, text, held, one, *due):
        works(self, read_work(GROUND, text, {"it": held}), one, list(due))

    def test_each_all_opened(self):
        held = all_zero()
        self.used("use @it [next(b:num)]", held, goal(P), goal(P, same(add(ZERO, made("next", B)), made("next", B))))
        self.used("use @it [a:num]", held, goal(P, NO), goal(P, NO, same(add(ZERO, A), A)))
        self.used("use @it", held, goal(P), goal(P, held.saying()))
        self.used("use @it [a:num]", held, goal(P, same(add(ZERO, A), A)), goal(P, same(add(ZERO, A), A)))

    def many(self):
        """Said of all of three kinds."""
        held = KERNEL.by_equation(made("pick", name("t", "thing"), made("next", B), name("u", "thing")))
        for x, kind in (("u", "thing"), ("b", "num"), ("t", "thing")):
            held = KERNEL.by_each(held, x, kind)
        return held

    def test_more_alls_than_terms(self):
        held = self.many()
        t, u = name("t", "thing"), name("u", "thing")
        pick = same(made("pick", bound(2), made("next", Y), X), X)
        self.assertEqual(held.saying(), alls(pick, "thing", "num", "thing"))
        self.used("use @it", held, goal(P), goal(P, held.saying()))
        self.used("use @it [t:thing]", held, goal(P), goal(P, alls(same(made("pick", t, made("next", Y), X), X), "num", "thing")))
        self.used("use @it [u:thing], [add(a:num, b:num)]", held, goal(P),
                  goal(P, alls(same(made("pick", u, made("next", add(A, B)), X), X), "thing")))
        self.used("use @it [u:thing], [zero], [t:thing]", held, goal(P), goal(P, same(made("pick", u, num(1), t), t)))
        self.used("use @it [u:thing], [zero], [u:thing]", held, goal(P), goal(P, same(made("pick", u, num(1), u), u)))
        self.used("use @it [t:thing], [b:num], [u:thing]", held, goal(P), goal(P, same(made("pick", t, made("next", B), u), u)))

    def test_fewer_alls_than_terms(self):
        self.fails_use("use @it [u:thing], [zero], [t:thing], [zero]", self.many())
        self.fails_use("use @it [zero]", KERNEL.by_alike(ZERO))
        self.fails_use("use @it [zero], [zero]", all_zero())

    def fails_use(self, text, held, one=None):
        fails(self, read_work(GROUND, text, {"it": held}), one or goal(P))

    def test_other_kinds(self):
        self.fails_use("use @it [nil]", all_zero())
        self.fails_use("use @it [zero], [zero], [t:thing]", self.many())
        self.fails_use("use @it [t:thing], [zero], [zero]", self.many())
        self.fails_use("use @it [t:thing], [t:thing]", self.many())

    def test_names_in_the_terms(self):
        """Terms whose names are those that were bound, or new ones."""
        held = KERNEL.by_each(KERNEL.by_each(KERNEL.by_equation(add(made("next", A), B)), "b", "num"), "a", "num")
        for one, other in itertools.permutations([A, B, C, made("next", B), add(A, C)], 2):
            texts = [f"[{show_term(term)}]" for term in (one, other)]
            due = same(add(made("next", one), other), made("next", add(one, other)))
            self.used(f"use @it {texts[0]}, {texts[1]}", held, goal(NO), goal(NO, due))

    def test_given_and_lent(self):
        held = KERNEL.by_more(all_zero(), P)
        self.used("use @it [a:num]", held, goal(Q, P), goal(Q, P, same(add(ZERO, A), A)))
        self.fails_use("use @it [a:num]", held, goal(Q))
        self.fails_use("use @it", held, goal(P))
        self.fails_use("use @it", KERNEL.by_lent(((), P)))

    def test_what_would_come_is_no_goal(self):
        self.fails_use("use @it [b:num]", all_zero(), goal(P, *[same(C, num(at)) for at in range(20)]))
        self.fails_use(f"use @it [{show_term(num(38))}]", all_zero())
        self.used(f"use @it [{show_term(num(37))}]", all_zero(), goal(P), goal(P, same(add(ZERO, num(37)), num(37))))
        self.fails_use("use @it", taken(nots(40), GROUND), ((nots(39),), P))

    def test_deep_terms_and_many_alls(self):
        held = KERNEL.by_equation(add(ZERO, A))
        for x in ("a",) + ("b",) * 20:
            held = KERNEL.by_each(held, x, "num")
        terms = ", ".join([f"[{show_term(num(37))}]"] * 21)
        self.assertLess(len(terms), 12000)
        self.used(f"use @it {terms}", held, goal(P), goal(P, same(add(ZERO, num(37)), num(37))))

    def test_of_another_ground(self):
        strange = Ground([("num", [("zero", []), ("next", ["num"])])], [("add", ["num", "num"], "num", 0, [num(1), num(2)])])
        worker = read_work(strange, "use @it [zero]", {"it": all_zero()})
        fails(self, worker, goal(NO, ground=strange), strange)
        few = Ground([("num", [("zero", []), ("next", ["num"])])], [("add", ["num", "num"], "num", 0, [name("xb"), made("next", add(name("ya"), name("xb")))])])
        works(self, read_work(few, "use @it [zero]", {"it": all_zero()}), goal(NO, ground=few), [goal(NO, same(add(ZERO, ZERO), ZERO), ground=few)], few)


class TestJoined(WorksTest):
    def test_joined(self):
        both = goal(("and", ("so", P, P), ("and", Q, ("or", Q, R))), Q)
        self.does_as("both ; suppose", Then(Both(), Suppose()), goal(("and", ("so", P, P), ("not", Q))))
        self.does_as("given | suppose", Else(Given(), Suppose()), *SOME_GOALS)
        self.does_as("both *", Again(Both(), 50), both, *SOME_GOALS)
        self.does_as("( both )", Both(), *SOME_GOALS)
        self.does_as("( ( both ) )", Both(), *SOME_GOALS)
        self.does_as("( given | both | suppose | first ) *", Again(Else(Else(Else(Given(), Both()), Suppose()), First()), 50), both, *SOME_GOALS)

    def test_how_they_bind(self):
        """; binds least, then |, then *."""
        atoms = {"given": Given(), "both": Both(), "suppose": Suppose(), "alike": Alike(), "first": First()}
        goals = SOME_GOALS + [goal(("and", ("and", P, Q), ("so", P, P)), P), goal(("and", P, P), P), goal(("or", ("and", P, P), Q), P)]
        for one, two, three in itertools.permutations(atoms, 3):
            a, b, c = atoms[one], atoms[two], atoms[three]
            for text, worker in ((f"{one} ; {two} | {three}", Then(a, Else(b, c))), (f"{one} | {two} ; {three}", Then(Else(a, b), c)),
                                 (f"{one} | {two} *", Else(a, Again(b, 50))), (f"{one} * | {two}", Else(Again(a, 50), b)),
                                 (f"{one} ; {two} *", Then(a, Again(b, 50))), (f"( {one} ; {two} ) *", Again(Then(a, b), 50)),
                                 (f"( {one} ; {two} ) | {three}", Else(Then(a, b), c)), (f"{one} ; ( {two} ; {three} )", Then(a, Then(b, c))),
                                 (f"{one} * * ; {two}", Then(Again(Again(a, 50), 50), b))):
                read = read_work(GROUND, text, {})
                for at in range(0, len(goals), 3):
                    self.assertEqual(self.told(read, goals[at]), self.told(worker, goals[at]), text)

    def test_from_the_left(self):
        for sign, joined in ((" ; ", Then), (" | ", Else)):
            read = read_work(GROUND, sign.join(["given", "both", "suppose", "fix"]), {})
            due = joined(joined(joined(Given(), Both()), Suppose()), Fix())
            self.assertEqual(shape(read), shape(due))
            read = read_work(GROUND, sign.join(["given", "( both" + sign + "suppose )", "fix"]), {})
            self.assertEqual(shape(read), shape(joined(joined(Given(), joined(Both(), Suppose())), Fix())))
        self.assertEqual(shape(read_work(GROUND, "given ; both | fix * ; rows", {})), shape(Then(Then(Given(), Else(Both(), Again(Fix(), 50))), ByRows())))
        self.assertEqual(shape(read_work(GROUND, "given * *", {})), shape(Again(Again(Given(), 50), 50)))

    def test_behind_words_that_need_something(self):
        goals = [goal(same(add(ZERO, A), made("one"))), goal(("and", same(add(ZERO, A), A), P), P)]
        self.does_as("( both | rest add | given ) *", Again(Else(Else(Both(), Rewrite([("add", 0), ("add", 1)])), Given()), 50), *goals)
        self.does_as("rest add @zero ; alike | rest one", Then(Rewrite([("add", 0), ("add", 1), (HELD["zero"], False)]), Else(Alike(), Rewrite([("one", 0)]))), goals[0])
        self.does_as("use @zero [zero] ; use @zero ; cut [no]", Then(Then(cut_of(HELD["zero"], ZERO), cut_of(HELD["zero"])), Cut(NO)), goals[0])
        self.does_as("( rest @ones< ) | given", Else(Rewrite([(HELD["ones"], True)]), Given()), *goals)
        self.does_as("rest @ones< * | given", Else(Again(Rewrite([(HELD["ones"], True)]), 50), Given()), *goals)
        self.does_as("down a:num, b:num | fix", Else(Down("a", "num", [("b", "num")]), Fix()), *goals)
        self.does_as("apart 0 | at 0 [zero] | put 0 0 | show [zero] | makers [a:num]", ByMakers(A), goals[0])

    def test_fifty_times(self):
        """A star stands for fifty times, not for more."""
        saying = P
        for _ in range(8):
            saying = ("and", P, saying)
        text = "cut [a:num = zero] *"
        one = goal(saying)
        self.assertEqual(self.told(read_work(GROUND, text, {}), one), self.told(Again(Cut(P), 50), one))
        self.assertNotEqual(len(self.told(Again(Cut(P), 50), one)), len(self.told(Again(Cut(P), 51), one)))
        self.assertNotEqual(len(self.told(Again(Cut(P), 50), one)), len(self.told(Again(Cut(P), 49), one)))

    def test_fifty_brackets(self):
        for many in (1, 2, 49, 50):
            self.does_as("( " * many + "both" + " )" * many, Both(), *SOME_GOALS[:6])
            self.does_as("( given | " * many + "both" + " )" * many, Both(), *SOME_GOALS[1:6])
        for many in (51, 52, 60, 600):
            self.none("( " * many + "both" + " )" * many, "( given | " * many + "both" + " )" * many)
        self.none("( " * 51 + "both" + " ) *" * 51)
        read_work(GROUND, "( both ) ; " * 60 + "( " * 50 + "both" + " )" * 50, {})

    def test_deep_ones_at_work(self):
        text = "both"
        for _ in range(50):
            text = f"( alike | {text} * ; given | both * )"
        read = read_work(GROUND, text, {})
        one = goal(("and", P, P), P)
        reads(self, GROUND, one, *read.work(GROUND, one))

    def test_deep_ones_by_few_calls(self):
        """Fifty workers within one another are at work without calls too deep for Python."""
        text = "rest add"
        for _ in range(50):
            text = f"( alike | {text} * ; given )"
        read = read_work(GROUND, text, {})
        one = goal(same(add(num(20), A), ZERO))
        was = sys.getrecursionlimit()
        sys.setrecursionlimit(600 + len(inspect.stack()))
        try:
            self.assertEqual(self.told(read, one), "fails")
        finally:
            sys.setrecursionlimit(was)

    def test_long_texts(self):
        start = time.monotonic()
        one = goal(("not", P))
        for text, due in ((" | ".join(["given"] * 400 + ["suppose"]), [goal(NO, P)]), ("suppose ; " + " ; ".join(["absurd"] * 400), [goal(NO, P)]),
                          ("suppose" + " *" * 1990, [goal(NO, P)]), ("alike" + " *" * 1990, [one]), ("( " * 50 + "suppose" + " * )" * 50, [goal(NO, P)])):
            read = read_work(GROUND, text, {})
            told, way = read.work(GROUND, one)
            self.assertEqual(told, due)
            reads(self, GROUND, one, told, way)
        self.assertLess(time.monotonic() - start, 30)


def cut_of(held, *terms):
    """A Cut of what a held thing says of these terms, by its paper."""
    saying = held.saying()
    for term in terms:
        saying = opened(saying[2], term)
    return OneOf(saying)


class OneOf(Worker):
    """The saying is given besides."""

    def __init__(self, saying):
        self._saying = saying

    def work(self, ground, one):
        told, _ = Cut(self._saying).work(ground, one)
        return told[1:], [("lent", (), (0,))]


def shape(worker):
    """The classes of a worker and of what it is made of."""
    inner = vars(worker)
    return (worker.__class__.__name__,) + tuple(shape(one) if isinstance(one, Worker) else one for one in inner.values())


class TestNoTexts(WorksTest):
    TEXTS = ["given", "both ; suppose", "given | both *", "( given ) *", "show [zero]", "cut [no]", "apart 0", "at 0 [zero]", "put 0 1", "cases [no]", "makers [a:num]",
             "down a:num, b:list", "rows", "rest add @zero @ones<", "use @zero", "use @zero [zero], [zero]"]

    def test_of_anything(self):
        self.none(*[thing for thing in THINGS if thing != "given"], AlikeThing(), ["given"], b"given", ("given",))

    def test_words(self):
        self.none("", " ", "what", "Given", "given given", "given both", "givens", "giv", "given1", "given.", "try given", "each", "again", "closed", "then", "finder", "else",
                  "no", "zero", "add", "@zero", "a:num", "[zero]", "0", "*", ";", "|", "(", ")", "( )", "()")

    def test_blanks(self):
        self.none(" given", "given ", "given  ; both", "given ;both", "given; both", "given;both", "given |both", "given| both", "given*", "given  *", "(given )", "( given)",
                  "(given)", "( given ) ", "given ; ", "given | ", " ; given", "given ;", "given |", "* given", "given\n", "\tgiven", "given ;\nboth", "given * both", "given ** both",
                  "given **", "given * | * both", "given ; ; both", "given | ; both", "given ; * both")

    def test_brackets(self):
        self.none("( given", "given )", "( ( given )", "( given ) )", "( given ) given", "given ( both )", "( given ; )", "( ; given )", "[ given ]", "{ given }")

    def test_needs(self):
        self.none("show", "show ", "show zero", "show[zero]", "show  [zero]", "show [zero", "show zero]", "show []", "show [zero ]", "show [ zero]", "show [zero] [zero]", "show (zero)",
                  "show [zero], [zero]", "show [a:num = zero]", "show [[zero]]", "show [no]", "cut", "cut [zero]", "cut no", "cut [no] [no]", "cut []", "cut [a:num]",
                  "cases", "cases [zero]", "cases no", "makers", "makers zero", "makers [no]", "given [zero]", "given 0", "both [no]", "rows 0", "fix [a:num]", "fix a:num")

    def test_numbers(self):
        self.none("apart", "apart ", "apart -1", "apart +1", "apart 01", "apart 00", "apart 0 0", "apart  0", "apart a", "apart 1.0", "apart 1a", "apart [0]", "apart zero", "apart0",
                  "at", "at 0", "at [zero]", "at 0 zero", "at 0[zero]", "at 00 [zero]", "at [zero] 0", "at 0  [zero]", "put", "put 0", "put 0 ", "put 0 00", "put 0 01", "put 0 0 0",
                  "put 01 0", "put 0 -1", "put 0,0", "put 0, 0", "apart \u0661", "apart \u00b2", "apart 1_0", "apart 1e1")

    def test_names_with_kinds(self):
        self.none("down", "down ", "down a", "down a:", "down :num", "down a: num", "down a :num", "down a:num,b:num", "down a:num,  b:num", "down a:num b:num", "down a:num,",
                  "down a:num, ", "down a:what", "down a:add", "down no:num", "down a:num, all:num", "down abcdefghi:num", "down [a:num]", "down A:num", "down a:num, b")

    def test_sources(self):
        self.none("rest", "rest ", "rest what", "rest zero", "rest num", "rest love what", "rest  add", "rest add  one", "rest add, one", "rest @", "rest @what", "rest zero @zero",
                  "rest @zero <", "rest <@zero", "rest @ zero", "rest @zero<<", "rest add<", "rest @zero>", "rest [add]", "rest @abcdefghi", "rest @all", "rest add [zero]", "rest 0",
                  "rest add @zero@ones", "rest add one;", "rest @zero< [zero]")

    def test_use(self):
        self.none("use", "use ", "use zero", "use @", "use @what", "use @zero<", "use @zero zero", "use @zero[zero]", "use @zero  [zero]", "use @zero [zero] [zero]", "use @zero [zero],[zero]",
                  "use @zero [zero],", "use @zero [zero], ", "use @zero []", "use @zero [no]", "use @zero @zero", "use [zero]", "use @zero [zero], zero", "use  @zero")

    def test_great_texts(self):
        self.none(f"show [{show_term(num(40))}]", f"show [{show_term(made('fork', wide(100), wide(100)))}]", f"cut [{'not ' * 40}no]", f"cases [{'not ' * 40}no]", f"makers [{show_term(num(40))}]")
        read_work(GROUND, f"show [{show_term(num(39))}] ; cut [{'not ' * 39}no]", {})

    def test_names_that_are_not_held(self):
        for text in ("use @what", "rest @what", "rest add @zero @what<", "given | use @what [zero]", "( use @what )", "use @zero ; use @what"):
            self.none(text)
            refused(self, NoText, read_work, GROUND, text.replace("zero", "what"), {})
        refused(self, NoText, read_work, GROUND, "use @zero", {})
        read_work(GROUND, "given", {})

    def test_changed_texts(self):
        """A text with a sign changed is refused, or read like another one: by no other error."""
        read = refused_ones = 0
        for text in self.TEXTS:
            for changed in changed_texts(text, "az:,;|*()[]@<0 9\n"):
                try:
                    self.assertIsInstance(read_work(GROUND, changed, HELD), Worker)
                    read += 1
                except NoText:
                    refused_ones += 1
        self.assertGreater(refused_ones, 10 * read)
        self.assertGreater(read, 20)


class TestNamesNamed(unittest.TestCase):
    def test_names(self):
        for text, due in (("given", []), ("use @a", ["a"]), ("use @zero [zero], [zero]", ["zero"]), ("rest add @b @a<", ["a", "b"]), ("rest @b<", ["b"]),
                          ("use @b ; use @a [zero] | rest @b @c<", ["a", "b", "c"]), ("( use @zz ) * ; ( rest @aa @aaa add @ab )", ["aa", "aaa", "ab", "zz"]),
                          ("cut [all x:num. x:num = zero] ; given", []), ("use @given ; given", ["given"]), ("rest @a @a @a<", ["a"])):
            self.assertEqual(names_named(text), due)
            names_named(text).append("what")
            self.assertEqual(names_named(text), due)
        for thing in THINGS:
            if not isinstance(thing, str):
                refused(self, NoText, names_named, thing)


class TestHeld(WorksTest):
    def test_dict_changed_behind(self):
        held = {"it": all_zero(), "more": next_of_one()}
        was = dict(held)
        use, rest = read_work(GROUND, "use @it [zero]", held), read_work(GROUND, "rest @it @more<", held)
        self.assertEqual(held, was)
        held["it"] = KERNEL.by_alike(ZERO)
        del held["more"]
        one = goal(same(add(ZERO, A), made("one")))
        for _ in range(2):
            works(self, use, one, [goal(one[1], same(add(ZERO, ZERO), ZERO))])
            works(self, rest, one, self.told(Rewrite([(was["it"], False), (was["more"], True)]), one))
            held.clear()
        refused(self, NoText, read_work, GROUND, "use @it [zero]", held)

    def test_held_things_of_any_kernel(self):
        other = Kernel(GROUND)
        held = {"it": other.by_each(other.by_equation(add(ZERO, A)), "a", "num")}
        works(self, read_work(GROUND, "rest @it", held), goal(same(add(ZERO, B), B)), [])
        works(self, read_work(GROUND, "use @it [b:num] ; given", held), goal(same(add(ZERO, B), B)), [])

    def test_what_is_read_by_a_finder(self):
        finder = Finder([read_work(GROUND, "both", {}), read_work(GROUND, "rest @zero", HELD), read_work(GROUND, "given", {})], 30)
        works(self, finder, goal(("and", same(add(ZERO, B), B), P), P), [])
        self.assertEqual(finder.tried(), 6)


if __name__ == "__main__":
    unittest.main()
