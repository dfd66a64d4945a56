import copy
import itertools
import unittest

from goalsmith.errors import NotFalling
from goalsmith.grounds import Ground
from goalsmith.kernel import Kernel
from goalsmith.matching import filled, fitting
from goalsmith.order import is_greater
from goalsmith.rules import held_rule, work_rules
from tests.papersupport import A, B, C, D, GROUND, NO, OTHER, P, bound, same
from tests.support import KINDS, ZERO, listed, made, name, num, refused

X, Y, Z = bound(0), bound(1), bound(2)


def alls(saying, *kinds):
    """The saying with an all for each of these kinds, the first one outermost."""
    for kind in reversed(kinds):
        saying = ("all", kind, saying)
    return saying


def taken(saying, ground=GROUND):
    """A held thing of any saying, given itself."""
    return Kernel(ground).by_take(saying)


class TestWorkRules(unittest.TestCase):
    def test_plain(self):
        self.assertEqual(work_rules(GROUND, "twice"), [(("num",), made("twice", X), made("add", X, X))])
        self.assertEqual(work_rules(GROUND, "one"), [((), made("one"), num(1))])
        self.assertEqual(work_rules(GROUND, "four"), [((), made("four"), num(4))])
        self.assertEqual(work_rules(GROUND, "first"), [(("num", "num"), made("first", X, Y), X)])

    def test_falling(self):
        self.assertEqual(work_rules(GROUND, "add"), [
            (("num",), made("add", ZERO, X), X),
            (("num", "num"), made("add", made("next", X), Y), made("next", made("add", X, Y))),
        ])
        self.assertEqual(work_rules(GROUND, "len"), [
            ((), made("len", made("nil")), ZERO),
            (("num", "list"), made("len", made("cons", X, Y)), made("next", made("len", Y))),
        ])
        self.assertEqual(work_rules(GROUND, "size"), [
            ((), made("size", made("leaf")), num(1)),
            (("tree",), made("size", made("tip", X)), made("next", made("size", X))),
            (("tree", "tree"), made("size", made("fork", X, Y)), made("next", made("add", made("size", X), made("size", Y)))),
        ])

    def test_numbered_as_they_first_stand_in_the_left(self):
        """What stands ahead of the place comes first, then what the maker takes, then what stands behind."""
        self.assertEqual(work_rules(GROUND, "pick"), [
            (("thing", "thing"), made("pick", X, ZERO, Y), X),
            (("thing", "num", "thing"), made("pick", X, made("next", Y), Z), Z),
        ])
        dots = work_rules(GROUND, "dots")
        self.assertEqual(dots, [
            (("num",), made("dots", X, made("dot")), X),
            (("num", "bush"), made("dots", X, made("stem", Y)), X),
            (("num", "num"), made("dots", X, made("knot", Y)), Y),
            (("num", "bush", "bush"), made("dots", X, made("twin", Y, Z)), X),
            (("num", "num", "bush", "num"), made("dots", X, made("trio", Y, Z, bound(3))), made("add", Y, bound(3))),
            (("num", "bush", "num", "bush", "list"), made("dots", X, made("quad", Y, Z, bound(3), bound(4))), made("dots", X, bound(3))),
        ])

    def test_at_the_last_place(self):
        ya, yb, xa, xb = (name(x, "num") for x in ("ya", "yb", "xa", "xb"))
        ground = Ground([("num", [("zero", []), ("both", ["num", "num"])])], [
            ("last", ["num", "num", "num"], "num", 2, [xb, made("both", made("last", xb, xa, yb), ya)]),
        ])
        self.assertEqual(work_rules(ground, "last"), [
            (("num", "num"), made("last", X, Y, ZERO), Y),
            (("num",) * 4, made("last", X, Y, made("both", Z, bound(3))), made("both", made("last", Y, X, bound(3)), Z)),
        ])

    def test_open(self):
        for f in ("love", "home", "age", "grow"):
            self.assertEqual(work_rules(GROUND, f), [])

    def test_each_is_greater(self):
        for work in GROUND.works():
            rules = work_rules(GROUND, work[0])
            self.assertEqual(len(rules), len(work[4]))
            for kinds, left, right in rules:
                self.assertIsInstance(kinds, tuple)
                self.assertTrue(is_greater(GROUND, left, right))

    def test_as_the_kernel_says(self):
        """Filled, a rule is what the kernel's equation says."""
        things = {"num": [ZERO, A, num(2)], "thing": [name("t", "thing")], "list": [listed(A), name("l", "list")],
                  "tree": [made("leaf"), name("u", "tree")], "bush": [made("dot"), name("v", "bush")]}
        for work in GROUND.works():
            for kinds, left, right in work_rules(GROUND, work[0]):
                for parts in itertools.islice(itertools.product(*[things[kind] for kind in kinds]), 20):
                    term = filled(left, parts)
                    self.assertEqual(Kernel(GROUND).by_equation(term).saying(), same(term, filled(right, parts)))
                    self.assertEqual(fitting(GROUND, (kinds, left, right), term), parts)

    def test_told_lists(self):
        told = work_rules(GROUND, "add")
        due = copy.deepcopy(told)
        told.clear()
        work_rules(GROUND, "twice").append(None)
        self.assertEqual(work_rules(GROUND, "add"), due)


class TestHeldRule(unittest.TestCase):
    def test_without_an_all(self):
        self.assertEqual(held_rule(GROUND, Kernel(GROUND).by_equation(made("one"))), ((), made("one"), num(1)))
        self.assertEqual(held_rule(GROUND, taken(same(made("add", A, B), A))), ((), made("add", A, B), A))
        self.assertEqual(held_rule(GROUND, taken(same(num(1), A)), False), ((), num(1), A))

    def test_one_all(self):
        kernel = Kernel(GROUND)
        held = kernel.by_each(kernel.by_equation(made("add", ZERO, B)), "b", "num")
        self.assertEqual(held_rule(GROUND, held), (("num",), made("add", ZERO, X), X))
        self.assertEqual((held.given(), held.lent()), ((), []))

    def test_several(self):
        """The kinds are those of the alls from the innermost on."""
        saying = alls(same(made("cons", X, Y), Y), "list", "num")
        self.assertEqual(held_rule(GROUND, taken(saying)), (("num", "list"), made("cons", X, Y), Y))
        saying = alls(same(made("pick", Z, Y, X), X), "thing", "num", "thing")
        self.assertEqual(held_rule(GROUND, taken(saying)), (("thing", "num", "thing"), made("pick", Z, Y, X), X))
        saying = alls(same(made("pick", X, Y, Z), X), "thing", "num", "thing")
        self.assertEqual(held_rule(GROUND, taken(saying)), (("thing", "num", "thing"), made("pick", X, Y, Z), X))

    def test_meant_nowhere(self):
        saying = alls(same(made("twice", Y), Y), "list", "num", "thing")
        self.assertEqual(held_rule(GROUND, taken(saying)), (("thing", "num", "list"), made("twice", Y), Y))
        saying = alls(same(made("one"), ZERO), "num", "list")
        self.assertEqual(held_rule(GROUND, taken(saying)), (("list", "num"), made("one"), ZERO))

    def test_turned(self):
        saying = alls(same(X, made("add", X, ZERO)), "num")
        self.assertEqual(held_rule(GROUND, taken(saying), True), (("num",), made("add", X, ZERO), X))
        refused(self, NotFalling, held_rule, GROUND, taken(saying), False)
        refused(self, NotFalling, held_rule, GROUND, taken(saying))
        saying = alls(same(made("add", X, ZERO), X), "num")
        refused(self, NotFalling, held_rule, GROUND, taken(saying), True)
        self.assertEqual(held_rule(GROUND, taken(same(A, num(2))), turned=True), ((), num(2), A))

    def test_free_names_stand_for_themselves(self):
        saying = alls(same(made("add", A, X), made("next", X)), "num")
        rule = held_rule(GROUND, taken(saying))
        self.assertEqual(rule, (("num",), made("add", A, X), made("next", X)))
        self.assertIsNone(fitting(GROUND, rule, made("add", B, C)))
        self.assertEqual(fitting(GROUND, rule, made("add", A, C)), (C,))

    def test_with_something_given(self):
        kernel = Kernel(GROUND)
        held = kernel.by_more(kernel.by_take(same(made("add", A, B), A)), NO)
        self.assertEqual(held_rule(GROUND, held), ((), made("add", A, B), A))
        each = kernel.by_each(kernel.by_put(kernel.by_take(same(B, ZERO)), kernel.by_alike(made("add", C, B)), "num",
                                            same(made("add", C, X), made("add", C, B))), "c", "num")
        self.assertEqual(each.given(), (same(B, ZERO),))
        self.assertEqual(held_rule(GROUND, each), (("num",), made("add", X, ZERO), made("add", X, B)))
        refused(self, NotFalling, held_rule, GROUND, each, True)

    def test_goals_lent(self):
        kernel = Kernel(GROUND)
        lent = kernel.by_lent(((), same(made("one"), ZERO)))
        refused(self, NotFalling, held_rule, GROUND, lent)
        kernel = Kernel(GROUND)
        refused(self, NotFalling, held_rule, GROUND, kernel.by_more(kernel.by_lent(((), same(num(1), ZERO))), P))
        more = kernel.by_left(kernel.by_both(kernel.by_take(same(num(1), ZERO)), kernel.by_lent(((), P))))
        refused(self, NotFalling, held_rule, GROUND, more)

    def test_no_same(self):
        for saying in (NO, ("not", same(num(1), ZERO)), ("and", same(num(1), ZERO), same(num(1), ZERO)), ("so", P, same(num(1), ZERO)),
                       ("some", "num", same(made("next", X), X)), ("all", "num", ("not", same(made("next", X), X))),
                       ("all", "num", ("some", "num", same(made("next", X), X))), ("all", "num", NO),
                       ("all", "num", ("so", same(X, X), same(made("next", X), X)))):
            for turned in (False, True):
                refused(self, NotFalling, held_rule, GROUND, taken(saying), turned)

    def test_left_not_made(self):
        refused(self, NotFalling, held_rule, GROUND, taken(same(B, A)))
        refused(self, NotFalling, held_rule, GROUND, taken(same(A, B)), True)
        refused(self, NotFalling, held_rule, GROUND, taken(same(A, ZERO)))
        refused(self, NotFalling, held_rule, GROUND, taken(alls(same(X, X), "num")))
        refused(self, NotFalling, held_rule, GROUND, taken(alls(same(X, A), "num")))
        refused(self, NotFalling, held_rule, GROUND, taken(alls(same(X, Y), "num", "num")))

    def test_bound_in_the_right_alone(self):
        for right in (X, made("next", X), made("add", Y, X), made("add", X, Y)):
            refused(self, NotFalling, held_rule, GROUND, taken(alls(same(made("dots", Y, made("dot")), right), "num", "num")))
        refused(self, NotFalling, held_rule, GROUND, taken(alls(same(made("one"), X), "num")))
        refused(self, NotFalling, held_rule, GROUND, taken(alls(same(X, made("one")), "num")), True)

    def test_left_not_greater(self):
        refused(self, NotFalling, held_rule, GROUND, taken(alls(same(made("add", X, Y), made("add", Y, X)), "num", "num")))
        refused(self, NotFalling, held_rule, GROUND, taken(alls(same(made("add", X, Y), made("add", Y, X)), "num", "num")), True)
        refused(self, NotFalling, held_rule, GROUND, taken(same(num(2), num(2))))
        refused(self, NotFalling, held_rule, GROUND, taken(same(num(2), num(3))))
        refused(self, NotFalling, held_rule, GROUND, taken(same(made("next", made("one")), made("twice", made("four")))))
        refused(self, NotFalling, held_rule, GROUND, taken(same(num(1), made("add", A, B))))
        self.assertEqual(held_rule(GROUND, taken(same(num(1), made("add", A, B))), True), ((), made("add", A, B), num(1)))

    def test_of_another_ground(self):
        refused(self, NotFalling, held_rule, OTHER, taken(same(made("add", A, B), A)))
        refused(self, NotFalling, held_rule, Ground(KINDS, []), taken(same(D, made("four"))), True)
        self.assertEqual(held_rule(OTHER, taken(same(num(1), ZERO))), ((), num(1), ZERO))

    def test_asked_again(self):
        held = taken(alls(same(made("twice", X), X), "num"))
        told = held_rule(GROUND, held)
        held_rule(GROUND, taken(same(num(1), ZERO)))
        refused(self, NotFalling, held_rule, GROUND, held, True)
        self.assertEqual(held_rule(GROUND, held), told)
        self.assertEqual(held.given(), (held.saying(),))


if __name__ == "__main__":
    unittest.main()
