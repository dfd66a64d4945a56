import itertools
import random
import unittest

from goalsmith.cases import ByCases, ByMakers
from goalsmith.errors import Fails
from goalsmith.grounds import Ground
from tests.papersupport import A, B, C, GROUND, NO, NO_SAYINGS, NO_TERMS, OTHER, P, Q, R, bound, nots, numbered, same
from tests.support import ZERO, Alike, listed, made, name, num, wide
from tests.workersupport import SAYINGS, fails, fails_of_no_goals, goal, works

X = bound(0)
AL, BL = name("a", "list"), name("b", "list")
TWENTY = numbered(20)
LARGE = same(wide(99), wide(100))
SIX = Ground([("hue", [(f, []) for f in ("red", "green", "blue", "white", "grey", "black")])], [])


class WorkerTest(unittest.TestCase):
    def works(self, worker, one, *due, ground=GROUND):
        return works(self, worker, one, list(due), ground)

    def fails(self, worker, one, ground=GROUND):
        fails(self, worker, one, ground)


class TestByCases(WorkerTest):
    def test_by_cases(self):
        for saying in SAYINGS.values():
            for case in (P, NO, SAYINGS["all"], ("and", P, Q), ("not", R)):
                self.works(ByCases(case), goal(saying), goal(saying, case), goal(saying, ("not", case)))
                self.works(ByCases(case), goal(saying, R, Q), goal(saying, case, R, Q), goal(saying, ("not", case), R, Q))

    def test_of_itself_and_its_contrary(self):
        for saying in (P, ("not", P), NO, ("not", NO)):
            for case in (P, ("not", P), ("not", ("not", P)), NO, ("not", NO)):
                for more in itertools.chain.from_iterable(itertools.combinations([P, ("not", P), NO, ("not", ("not", P))], many) for many in range(4)):
                    self.works(ByCases(case), goal(saying, *more), goal(saying, case, *more), goal(saying, ("not", case), *more))

    def test_no_saying(self):
        for thing in NO_SAYINGS + [Alike()]:
            self.fails(ByCases(thing), goal(P))
            self.fails(ByCases(thing), goal(P, P))
        self.fails(ByCases(same(AL, BL)), goal(P, ground=OTHER), OTHER)

    def test_great(self):
        """The contrary of the case is given, too: it must not be great."""
        self.fails(ByCases(LARGE), goal(P))
        self.fails(ByCases(nots(39)), goal(P))
        self.fails(ByCases(("not", LARGE)), goal(P))
        large = same(wide(99), wide(99))
        self.works(ByCases(large), goal(P), goal(P, large), goal(P, ("not", large)))
        self.works(ByCases(nots(38)), goal(P), goal(P, nots(38)), goal(P, nots(39)))
        self.works(ByCases(P), goal(LARGE), goal(LARGE, P), goal(LARGE, ("not", P)))
        self.works(ByCases(P), goal(nots(39)), goal(nots(39), P), goal(nots(39), ("not", P)))

    def test_twenty_given(self):
        self.works(ByCases(R), goal(Q, *TWENTY[1:]), goal(Q, R, *TWENTY[1:]), goal(Q, ("not", R), *TWENTY[1:]))
        self.fails(ByCases(R), goal(Q, *TWENTY))
        # The case is given already, but its contrary is not.
        self.fails(ByCases(TWENTY[3]), goal(Q, *TWENTY))
        self.fails(ByCases(TWENTY[3]), goal(Q, ("not", TWENTY[3]), *TWENTY[:3], *TWENTY[4:]))
        more = TWENTY[:19] + [("not", TWENTY[3])]
        self.works(ByCases(TWENTY[3]), goal(Q, *more), goal(Q, *more), goal(Q, *more))
        fails_of_no_goals(self, ByCases(P))


class TestByMakers(WorkerTest):
    def test_of_a_name(self):
        self.works(ByMakers(A), goal(NO), goal(NO, same(A, ZERO)), goal(NO, same(A, made("next", B))))
        self.works(ByMakers(B), goal(P, R), goal(P, R, same(B, ZERO)), goal(P, R, same(B, made("next", name("d")))))
        self.works(ByMakers(AL), goal(same(AL, AL)), goal(same(AL, AL), same(AL, made("nil"))),
                   goal(same(AL, AL), same(AL, made("cons", B, name("c", "list")))))

    def test_of_any_term(self):
        for term in (ZERO, num(3), made("add", A, B), made("one"), made("twice", made("len", AL))):
            names = [x for x in "abcdefgh" if f"('name', '{x}'" not in repr(term)]
            self.works(ByMakers(term), goal(NO), goal(NO, same(term, ZERO)), goal(NO, same(term, made("next", name(names[0])))))

    def test_makers_of_none_to_four_parts(self):
        """For each maker new names from the first one on anew."""
        a, b, c = (name(x, "bush") for x in "abc")
        term = name("x", "bush")
        saying = same(term, term)
        made_ones = [made("dot"), made("stem", a), made("knot", A), made("twin", a, b), made("trio", A, b, C), made("quad", a, B, c, name("d", "list"))]
        for more in ((), (NO,), (NO, ("not", NO))):
            self.works(ByMakers(term), goal(saying, *more), *[goal(saying, same(term, one), *more) for one in made_ones])
        self.works(ByMakers(term), goal(saying, P), *[goal(saying, same(term, one), P) for one in (
            made("dot"), made("stem", b), made("knot", B), made("twin", b, c), made("trio", B, c, name("d")),
            made("quad", b, C, name("d", "bush"), name("e", "list")))])

    def test_kinds_of_one_to_six_makers(self):
        ground = Ground([("unit", [("only", [])]), ("box", [("full", ["unit", "unit"])])], [])
        x, y = name("x", "unit"), name("y", "box")
        self.works(ByMakers(x), goal(same(x, x), ground=ground), goal(same(x, x), same(x, made("only")), ground=ground), ground=ground)
        self.works(ByMakers(y), goal(same(x, x), ground=ground),
                   goal(same(x, x), same(y, made("full", name("a", "unit"), name("b", "unit"))), ground=ground), ground=ground)
        hue = name("a", "hue")
        self.works(ByMakers(hue), goal(NO, ground=SIX), *[goal(NO, same(hue, made(f)), ground=SIX) for f in SIX.makers("hue")], ground=SIX)

    def test_what_is_given_already(self):
        """A goal may be one of those, or given what is given besides."""
        self.works(ByMakers(A), goal(Q, P), goal(Q, P), goal(Q, P, same(A, made("next", C))))
        self.works(ByMakers(ZERO), goal(NO, same(ZERO, ZERO)), goal(NO, same(ZERO, ZERO)), goal(NO, same(ZERO, ZERO), same(ZERO, made("next", A))))
        saying = same(A, ZERO)
        self.works(ByMakers(A), goal(saying), goal(saying, saying), goal(saying, same(A, made("next", B))))

    def test_names(self):
        """New names are free in no saying of the goal, nor in the term, whatever their kind."""
        self.works(ByMakers(A), goal(same(BL, BL), same(name("c", "thing"), name("c", "thing"))),
                   goal(same(BL, BL), same(name("c", "thing"), name("c", "thing")), same(A, ZERO)),
                   goal(same(BL, BL), same(name("c", "thing"), name("c", "thing")), same(A, made("next", name("d")))))
        all_of = ("all", "num", same(X, X))
        self.works(ByMakers(made("len", AL)), goal(all_of), goal(all_of, same(made("len", AL), ZERO)),
                   goal(all_of, same(made("len", AL), made("next", B))))

    def test_no_term(self):
        for thing in NO_TERMS + [Alike()]:
            self.fails(ByMakers(thing), goal(P))
            self.fails(ByMakers(thing), goal(P, P))

    def test_open_kinds(self):
        for term in (name("a", "thing"), name("h", "spot"), made("home"), made("love", name("a", "thing"), name("b", "thing"))):
            self.fails(ByMakers(term), goal(P))
            self.fails(ByMakers(term), goal(same(term, term)))
        self.fails(ByMakers(AL), goal(P, ground=OTHER), OTHER)
        self.works(ByMakers(made("age", name("t", "thing"))), goal(NO), goal(NO, same(made("age", name("t", "thing")), ZERO)),
                   goal(NO, same(made("age", name("t", "thing")), made("next", A))))

    def test_great(self):
        a, b = name("a", "tree"), name("b", "tree")
        for signs, fits in ((190, True), (196, True), (197, False), (198, False), (300, False), (900, False)):
            term = made("fork", wide(signs - 2), a) if signs < 250 else wide(signs)
            if fits:
                due = [made("leaf"), made("tip", b), made("fork", b, name("c", "tree"))]
                self.works(ByMakers(term), goal(NO), *[goal(NO, same(term, one)) for one in due])
            else:
                self.fails(ByMakers(term), goal(NO))
        self.works(ByMakers(num(38)), goal(NO), goal(NO, same(num(38), ZERO)), goal(NO, same(num(38), made("next", A))))
        self.fails(ByMakers(num(39)), goal(NO))
        self.works(ByMakers(A), goal(LARGE), goal(LARGE, same(A, ZERO)), goal(LARGE, same(A, made("next", B))))
        self.works(ByMakers(A), goal(nots(39)), goal(nots(39), same(A, ZERO)), goal(nots(39), same(A, made("next", B))))

    def test_twenty_given(self):
        more = TWENTY[1:]
        self.works(ByMakers(C), goal(Q, *more), goal(Q, same(C, ZERO), *more), goal(Q, same(C, made("next", name("d"))), *more))
        self.fails(ByMakers(C), goal(Q, *TWENTY))
        # One of the makers alone is given already.
        self.fails(ByMakers(A), goal(Q, *TWENTY))
        self.assertIn(same(A, ZERO), TWENTY)
        hues = [same(name("a", "hue"), made(f)) for f in SIX.makers("hue")]
        filling = [nots(many) for many in range(14)]
        self.works(ByMakers(name("a", "hue")), goal(NO, *hues, *filling, ground=SIX), *[goal(NO, *hues, *filling, ground=SIX)] * 6, ground=SIX)
        fails_of_no_goals(self, ByMakers(A))

    def test_several_goals_and_grounds(self):
        rows = [(GROUND, goal(NO)), (OTHER, goal(NO, ground=OTHER)), (GROUND, goal(P, Q, R)), (OTHER, goal(P, P, ground=OTHER)),
                (SIX, goal(NO, ground=SIX)), (GROUND, goal(same(AL, AL)))]
        for make in (lambda: ByMakers(A), lambda: ByMakers(made("one")), lambda: ByCases(P), lambda: ByCases(same(AL, AL))):
            worker = make()
            for ground, one in rows + rows[::-1]:
                self.assertEqual(self.told(worker, ground, one), self.told(make(), ground, one))

    def told(self, worker, ground, one):
        try:
            return worker.work(ground, one)
        except Fails:
            return "fails"

    def test_by_chance(self):
        chance = random.Random(51)
        sayings = list(SAYINGS.values()) + [R, ("not", Q), same(AL, listed(A)), same(made("add", A, B), C)]
        terms = [A, B, ZERO, num(2), AL, listed(A, B), name("t", "tree"), name("b", "bush"), made("add", A, C)]
        for _ in range(200):
            one = goal(chance.choice(sayings), *chance.sample(sayings, chance.randrange(4)))
            told, _ = ByMakers(chance.choice(terms)).work(GROUND, one)
            case, left = chance.choice(sayings), chance.choice(told)
            self.works(ByCases(case), left, goal(left[1], case, *left[0]), goal(left[1], ("not", case), *left[0]))


if __name__ == "__main__":
    unittest.main()
