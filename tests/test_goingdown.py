import unittest

from goalsmith.errors import Fails
from goalsmith.goingdown import Down
from goalsmith.grounds import Ground
from tests.papersupport import A, B, C, D, GROUND, NO, NO_KINDS, NO_NAMES, P, bound, nots, same
from tests.rulesupport import alls
from tests.support import KINDS, THINGS, WORKS, ZERO, Alike, made, name, num, wide
from tests.workersupport import fails, fails_of_no_goals, goal, works

X, Y, Z = bound(0), bound(1), bound(2)
AL, BL = name("a", "list"), name("b", "list")
E = name("e")


def add(one, other):
    return made("add", one, other)


class DownTest(unittest.TestCase):
    def works(self, worker, one, *due, ground=GROUND):
        return works(self, worker, one, list(due), ground)

    def fails(self, worker, one, ground=GROUND):
        fails(self, worker, one, ground)


class TestDown(DownTest):
    def test_without_others(self):
        self.works(Down("a", "num", []), goal(same(add(A, ZERO), A)), goal(same(add(ZERO, ZERO), ZERO)),
                   goal(same(add(made("next", B), ZERO), made("next", B)), same(add(B, ZERO), B)))
        self.works(Down("a", "num", []), goal(P, NO), goal(same(ZERO, ZERO), NO),
                   goal(same(made("next", B), ZERO), same(B, ZERO), NO))

    def test_one_other(self):
        saying = same(add(A, B), add(B, A))
        of_all = alls(same(add(C, X), add(X, C)), "num")
        self.works(Down("a", "num", [("b", "num")]), goal(saying), goal(same(add(ZERO, B), add(B, ZERO))),
                   goal(same(add(made("next", C), B), add(B, made("next", C))), of_all))

    def test_several_others(self):
        """The first one's all is the outermost."""
        saying = ("so", same(AL, made("cons", A, BL)), same(A, B))
        others = [("b", "num"), ("b", "list"), ("a", "list")]
        of_all = alls(("so", same(X, made("cons", C, Y)), same(C, Z)), "num", "list", "list")
        self.works(Down("a", "num", others), goal(saying, NO), goal(("so", same(AL, made("cons", ZERO, BL)), same(ZERO, B)), NO),
                   goal(("so", same(AL, made("cons", made("next", C), BL)), same(made("next", C), B)), of_all, NO))
        of_all = alls(("so", same(Z, made("cons", C, Y)), same(C, X)), "list", "list", "num")
        self.works(Down("a", "num", others[::-1]), goal(saying, NO), goal(("so", same(AL, made("cons", ZERO, BL)), same(ZERO, B)), NO),
                   goal(("so", same(AL, made("cons", made("next", C), BL)), same(made("next", C), B)), of_all, NO))

    def test_the_same_letter_with_another_kind(self):
        saying = same(made("cons", A, AL), AL)
        self.works(Down("a", "list", [("a", "num")]), goal(saying), goal(same(made("cons", A, made("nil")), made("nil"))),
                   goal(same(made("cons", A, made("cons", B, name("c", "list"))), made("cons", B, name("c", "list"))),
                        alls(same(made("cons", X, name("c", "list")), name("c", "list")), "num")))
        self.works(Down("a", "num", [("a", "thing"), ("a", "list")]), goal(saying), goal(same(made("cons", ZERO, AL), AL)),
                   goal(same(made("cons", made("next", B), AL), AL), alls(same(made("cons", B, X), X), "thing", "list")))

    def test_others_of_open_kinds(self):
        t = name("t", "thing")
        saying = same(made("pick", t, A, t), t)
        self.works(Down("a", "num", [("t", "thing"), ("u", "spot")]), goal(saying), goal(same(made("pick", t, ZERO, t), t)),
                   goal(same(made("pick", t, made("next", B), t), t), alls(same(made("pick", Y, B, Y), Y), "thing", "spot")))

    def test_names_that_do_not_stand_in_the_saying(self):
        self.works(Down("b", "num", []), goal(P), goal(P), goal(P, P))
        self.works(Down("b", "num", [("c", "list")]), goal(P), goal(P), goal(P, alls(P, "list")))
        self.works(Down("b", "num", [("c", "list")]), goal(P, alls(P, "list")), goal(P, alls(P, "list")), goal(P, alls(P, "list")))
        self.works(Down("b", "num", []), goal(NO, NO), goal(NO, NO), goal(NO, NO))
        self.works(Down("b", "num", []), goal(P, P), goal(P, P), goal(P, P))

    def test_a_maker_that_takes_its_own_kind_several_times(self):
        t, u = name("t", "tree"), name("u", "tree")
        saying = same(made("fork", t, u), u)
        a, b = name("a", "tree"), name("b", "tree")
        due = [
            goal(same(made("fork", made("leaf"), u), u)),
            goal(same(made("fork", made("tip", a), u), u), alls(same(made("fork", a, X), X), "tree")),
            goal(same(made("fork", made("fork", a, b), u), u), alls(same(made("fork", a, X), X), "tree"), alls(same(made("fork", b, X), X), "tree")),
        ]
        self.works(Down("t", "tree", [("u", "tree")]), goal(saying), *due)
        due = [goal(same(made("fork", made("leaf"), u), u), P), goal(same(made("fork", made("tip", b), u), u), P, same(made("fork", b, u), u)),
               goal(same(made("fork", made("fork", b, name("c", "tree")), u), u), P, same(made("fork", b, u), u),
                    same(made("fork", name("c", "tree"), u), u))]
        self.works(Down("t", "tree", []), goal(saying, P), *due)

    def test_makers_of_none_to_four_parts(self):
        v = name("v", "bush")
        saying = same(made("dots", D, v), D)
        a, b, c = (name(x, "bush") for x in "abc")

        def of(one):
            return same(made("dots", D, one), D)

        self.works(Down("v", "bush", []), goal(saying), goal(of(made("dot"))), goal(of(made("stem", a)), of(a)), goal(of(made("knot", A))),
                   goal(of(made("twin", a, b)), of(a), of(b)), goal(of(made("trio", A, b, C)), of(b)),
                   goal(of(made("quad", a, B, c, name("e", "list"))), of(a), of(c)))
        of_all = [alls(same(made("dots", X, one), X), "num") for one in (a, b, c)]
        self.works(Down("v", "bush", [("d", "num")]), goal(saying), goal(of(made("dot"))), goal(of(made("stem", a)), of_all[0]), goal(of(made("knot", A))),
                   goal(of(made("twin", a, b)), of_all[0], of_all[1]), goal(of(made("trio", A, b, C)), of_all[1]),
                   goal(of(made("quad", a, B, c, name("e", "list"))), of_all[0], of_all[2]))

    def test_kinds_of_one_to_six_makers(self):
        ground = Ground([("unit", [("only", [])]), ("hue", [(f, []) for f in ("red", "green", "blue", "white", "grey", "black")]),
                         ("pair", [("two", ["unit", "hue"])])], [])
        h, u, p = name("h", "hue"), name("u", "unit"), name("p", "pair")
        self.works(Down("u", "unit", [("h", "hue")]), goal(same(u, u), NO, ground=ground), goal(same(made("only"), made("only")), NO, ground=ground), ground=ground)
        saying = same(made("two", u, h), p)
        self.works(Down("h", "hue", []), goal(saying, ground=ground),
                   *[goal(same(made("two", u, made(f)), p), ground=ground) for f in ground.makers("hue")], ground=ground)
        self.works(Down("p", "pair", [("u", "unit")]), goal(saying, ground=ground),
                   goal(same(made("two", u, h), made("two", name("a", "unit"), name("b", "hue"))), ground=ground), ground=ground)

    def test_sayings_within_all_and_some(self):
        saying = ("all", "num", ("some", "list", ("or", same(X, made("cons", A, X)), same(add(A, Y), B))))

        def of(one, other=B):
            return ("all", "num", ("some", "list", ("or", same(X, made("cons", one, X)), same(add(one, Y), other))))

        self.assertEqual(of(A), saying)
        self.works(Down("a", "num", []), goal(saying), goal(of(ZERO)), goal(of(made("next", C)), of(C)))
        self.works(Down("a", "num", [("b", "num")]), goal(saying), goal(of(ZERO)), goal(of(made("next", C)), alls(of(C, bound(2)), "num")))

    def test_new_names(self):
        """They are none of x and the others, of whatever kind, and free in nothing of the goal."""
        self.works(Down("a", "num", [("b", "list"), ("d", "thing")]), goal(same(C, C), same(E, E)), goal(same(C, C), same(E, E)),
                   goal(same(C, C), same(E, E), alls(same(C, C), "list", "thing")))
        saying = same(add(A, C), C)
        self.works(Down("a", "num", [("b", "list"), ("d", "thing")]), goal(saying, same(E, E)), goal(same(add(ZERO, C), C), same(E, E)),
                   goal(same(add(made("next", name("f")), C), C), same(E, E), alls(same(add(name("f"), C), C), "list", "thing")))
        self.works(Down("b", "num", []), goal(same(B, B)), goal(same(ZERO, ZERO)), goal(same(made("next", A), made("next", A)), same(A, A)))


class TestFails(DownTest):
    SAYING = same(add(A, B), B)

    def test_kinds(self):
        for thing in NO_KINDS + [Alike(), "thing", "spot"]:
            self.fails(Down("a", thing, []), goal(self.SAYING))
            self.fails(Down("t", thing, []), goal(NO))
        self.works(Down("t", "num", []), goal(NO), goal(NO), goal(NO, NO))

    def test_x(self):
        for thing in NO_NAMES + [Alike(), A, ("a", "num")]:
            self.fails(Down(thing, "num", []), goal(self.SAYING))
            self.fails(Down(thing, "num", [("b", "num")]), goal(NO))

    def test_others_of_anything(self):
        for thing in THINGS + [Alike(), A, "b", ("b",), ("b", "num", "num"), ["b", "num"], ("num", "b"), ("b", None), (None, "num"), ("b", ["num"])]:
            self.fails(Down("a", "num", [thing]), goal(self.SAYING))
            self.fails(Down("a", "num", [("b", "num"), thing]), goal(NO))
            self.fails(Down("a", "num", [thing, ("c", "list")]), goal(NO))
        for thing in NO_NAMES + [Alike()]:
            self.fails(Down("a", "num", [(thing, "num")]), goal(self.SAYING))
        for thing in NO_KINDS + [Alike()]:
            self.fails(Down("a", "num", [("b", thing)]), goal(self.SAYING))

    def test_where_nothing_is_given_of_them(self):
        """Others are looked at, too, where no maker takes the kind itself."""
        ground = Ground([("hue", [("red", []), ("blue", [])])], [])
        h, i = name("h", "hue"), name("i", "hue")
        one = goal(same(h, i), NO, ground=ground)
        self.works(Down("h", "hue", [("i", "hue")]), one, goal(same(made("red"), i), NO, ground=ground), goal(same(made("blue"), i), NO, ground=ground),
                   ground=ground)
        for thing in THINGS + [("h", "hue"), ("i", "num"), ("j", "hue", "hue"), ["j", "hue"], Alike()]:
            self.fails(Down("h", "hue", [thing]), one, ground)
        self.fails(Down("h", "hue", [("i", "hue"), ("i", "hue")]), one, ground)
        self.fails(Down("h", "hue", [("i", "hue")]), goal(same(h, i), same(i, i), ground=ground), ground)
        many = [("j" + letter, "hue") for letter in "abcdefghijklmnopqrstuvwxyz"] + [("k" + letter, "hue") for letter in "abcdefghijklmnopqrstuvwxyz"]
        self.works(Down("h", "hue", many), one, goal(same(made("red"), i), NO, ground=ground), goal(same(made("blue"), i), NO, ground=ground), ground=ground)
        deep = goal(nots(38, same(h, i)), ground=ground)
        self.works(Down("h", "hue", many), deep, goal(nots(38, same(made("red"), i)), ground=ground), goal(nots(38, same(made("blue"), i)), ground=ground),
                   ground=ground)

    def test_twice(self):
        self.fails(Down("a", "num", [("a", "num")]), goal(self.SAYING))
        self.fails(Down("a", "num", [("b", "num"), ("b", "num")]), goal(self.SAYING))
        self.fails(Down("a", "num", [("b", "num"), ("c", "num"), ("b", "num")]), goal(NO))
        self.fails(Down("a", "num", [("b", "num"), ("a", "num")]), goal(NO))
        self.works(Down("a", "num", [("b", "num"), ("b", "list")]), goal(NO), goal(NO), goal(NO, alls(NO, "num", "list")))

    def test_free_in_a_given_saying(self):
        for more in (same(A, A), ("all", "num", same(A, X)), ("not", same(ZERO, add(A, ZERO)))):
            self.fails(Down("a", "num", []), goal(self.SAYING, more))
            self.fails(Down("a", "num", []), goal(NO, NO, more))
            self.fails(Down("c", "num", [("b", "num"), ("a", "num")]), goal(self.SAYING, more))
        self.fails(Down("a", "num", []), goal(P, P))
        self.fails(Down("a", "num", [("b", "num")]), goal(self.SAYING, same(B, B)))
        # With another kind, it is another name.
        self.works(Down("a", "num", [("b", "num")]), goal(same(A, B), same(AL, BL)), goal(same(ZERO, B), same(AL, BL)),
                   goal(same(made("next", C), B), same(AL, BL), alls(same(C, X), "num")))
        # What is bound in it is not free.
        self.works(Down("a", "num", []), goal(same(A, B), alls(same(X, B), "num")), goal(same(ZERO, B), alls(same(X, B), "num")),
                   goal(same(made("next", C), B), alls(same(X, B), "num"), same(C, B)))

    def test_great(self):
        t = name("t", "tree")
        row = ("so", same(wide(96), made("leaf")), same(t, made("leaf")))
        saying = ("and", row, same(wide(93), made("leaf")))
        self.works(Down("t", "tree", []), goal(saying), *self.of_makers(saying, t))
        saying = ("and", row, same(wide(94), made("leaf")))
        self.fails(Down("t", "tree", []), goal(saying))
        saying = nots(38, same(A, ZERO))
        self.works(Down("a", "num", []), goal(nots(37, same(A, ZERO))), goal(nots(37, same(ZERO, ZERO))),
                   goal(nots(37, same(made("next", B), ZERO)), nots(37, same(B, ZERO))))
        self.fails(Down("a", "num", []), goal(saying))

    def of_makers(self, saying, t):
        def of(one):
            return (saying[0], (saying[1][0], saying[1][1], same(one, made("leaf"))), saying[2])

        a, b = name("a", "tree"), name("b", "tree")
        self.assertEqual(of(t), saying)
        return [goal(of(made("leaf"))), goal(of(made("tip", a)), of(a)), goal(of(made("fork", a, b)), of(a), of(b))]

    def test_many_others(self):
        """What would be said of all of them must not be great."""
        others = [("q" + letter, "num") for letter in "abcdefghijklmnopqrstuvwxyz"] + [("m" + letter, "num") for letter in "abcdefghijklmnopqrstuvwxyz"]
        for many in (1, 20, 37, 38):
            self.works(Down("a", "num", others[:many]), goal(P), goal(same(ZERO, ZERO)), goal(same(made("next", B), ZERO), alls(same(B, ZERO), *["num"] * many)))
        for many in (39, 50):
            self.fails(Down("a", "num", others[:many]), goal(P))

    def test_twenty_given(self):
        more = [same(C, num(at)) for at in range(20)]
        self.works(Down("a", "num", []), goal(same(A, B), *more[1:]), goal(same(ZERO, B), *more[1:]), goal(same(made("next", D), B), same(D, B), *more[1:]))
        self.fails(Down("a", "num", []), goal(same(A, B), *more))
        t = name("t", "tree")
        a, b = name("a", "tree"), name("b", "tree")
        due = [goal(same(made("leaf"), made("leaf")), *more[2:]), goal(same(made("tip", a), made("tip", a)), same(a, a), *more[2:]),
               goal(same(made("fork", a, b), made("fork", a, b)), same(a, a), same(b, b), *more[2:])]
        self.works(Down("t", "tree", []), goal(same(t, t), *more[2:]), *due)
        self.fails(Down("t", "tree", []), goal(same(t, t), *more[1:]))
        fails_of_no_goals(self, Down("a", "num", []))
        fails_of_no_goals(self, Down("a", "num", [("b", "list")]))


class TestKept(DownTest):
    def test_others_changed_behind(self):
        others = [("b", "num")]
        worker = Down("a", "num", others)
        saying = same(add(A, B), B)
        due = [goal(same(add(ZERO, B), B)), goal(same(add(made("next", C), B), B), alls(same(add(C, X), X), "num"))]
        self.works(worker, goal(saying), *due)
        others.clear()
        self.works(worker, goal(saying), *due)
        others.append(None)
        self.works(worker, goal(saying), *due)

    def test_several_goals_and_grounds(self):
        numbers = Ground(KINDS[2:3], [work for work in WORKS if work[0] == "add"])
        few = Ground([("num", [("one", []), ("two", []), ("sum", ["num", "num"])])], [])
        rows = [(GROUND, ((), same(A, B))), (numbers, ((), same(A, B))), (few, ((), same(A, B))), (GROUND, goal(P, NO)), (few, ((), same(A, made("one")))),
                (numbers, ((), same(A, made("one")))), (GROUND, goal(same(add(A, A), A)))]
        for make in (lambda: Down("a", "num", []), lambda: Down("a", "num", [("b", "num")]), lambda: Down("b", "list", [])):
            worker = make()
            for ground, one in rows + rows[::-1]:
                self.assertEqual(self.told(worker, ground, one), self.told(make(), ground, one))
        self.works(Down("a", "num", []), ((), same(A, A)), ((), same(made("one"), made("one"))), ((), same(made("two"), made("two"))),
                   goal(same(made("sum", B, C), made("sum", B, C)), same(B, B), same(C, C), ground=few), ground=few)

    def told(self, worker, ground, one):
        try:
            return worker.work(ground, one)
        except Fails:
            return "fails"


if __name__ == "__main__":
    unittest.main()
