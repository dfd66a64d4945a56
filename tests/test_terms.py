import unittest

from goalsmith.sayings import is_saying_to
from goalsmith.terms import is_great, is_term, is_term_to, is_too_great, kind_of, names_of, signs_of
from tests.support import THINGS, XA, ZERO, Alike, deep_tuple, doubled, ground, listed, made, name, num, wide

GROUND = ground()


class TestIsTerm(unittest.TestCase):
    def let(self, *things):
        for thing in things:
            self.assertIs(is_term(GROUND, thing), True, thing)

    def bar(self, *things):
        for thing in things:
            self.assertIs(is_term(GROUND, thing), False, thing)

    def test_ordinary(self):
        self.let(XA, name("a", "thing"), name("zero"), name("num", "list"), name("abcdefgh"))
        self.let(ZERO, num(5), made("home"), made("one"), made("love", name("a", "thing"), name("b", "thing")))
        self.let(made("add", num(1), made("len", made("cons", XA, name("l", "list")))))
        self.let(made("age", name("a", "thing")), made("pick", name("a", "thing"), ZERO, name("b", "thing")))
        self.let(num(40), num(59), wide(300))

    def test_of_anything(self):
        self.bar(*THINGS)
        self.bar(["name", "x", "num"], ["made", "zero", []], "zero", "x:num")
        self.bar((Alike(), "x", "num"), ("name", Alike(), "num"), ("made", "zero", Alike()), ("made", "next", (Alike(),)))

    def test_names(self):
        wrong = ["", "no", "not", "and", "or", "so", "all", "some", "abcdefghi", "A", "x1", "x y", "\u00e9", "x\n"]
        self.bar(*[name(x) for x in wrong + [1, True, None, b"x", ["x"], ("x",), {}]])
        self.bar(*[name("x", kind) for kind in ("zero", "add", "", "what", 1, True, None, ["num"], ("num",), {})])
        self.bar(("name", "x"), ("name", "x", "num", "num"), ("name",))

    def test_bound_ones(self):
        self.bar(*[("bound", k) for k in (0, 1, -1, True, None, "x")])
        self.bar(made("next", ("bound", 0)), made("add", ZERO, ("bound", 0)))

    def test_parts(self):
        self.bar(made("zero", ZERO), made("next"), made("next", ZERO, ZERO), made("add", ZERO))
        self.bar(made("add", ZERO, ZERO, ZERO))
        self.bar(("made", "next", [ZERO]), ("made", "zero", []), ("made", "zero"), ("made", "zero", (), ()))
        self.bar(("made", "zero", None), ("made", "zero", ""), ("made", "next", ZERO), ("made", "zero", {}))
        self.bar(("made", "next", (["made", "zero", []],)), ("made", "next", (("made", "zero", []),)))

    def test_kinds(self):
        self.bar(made("next", made("nil")), made("cons", made("nil"), made("nil")), made("cons", ZERO, ZERO))
        self.bar(made("add", ZERO, name("x", "list")), made("love", XA, XA))
        self.bar(made("next", made("next", made("next", made("nil")))))

    def test_makers_and_works_alone(self):
        for f in ("num", "what", "", None, True, 1, ["zero"], ("zero",), {}, "Zero"):
            self.bar(("made", f, ()))

    def test_other_words(self):
        self.bar(("nam", "x", "num"), ("same", ZERO, ZERO), ("no",), ("not", ZERO), ("mad", "zero", ()))
        self.bar((b"name", "x", "num"), (True, "zero", ()), (["made"], "zero", ()))

    def test_deep(self):
        thing = deep_tuple(50)
        for _ in range(33):
            thing = ("made", "next", (thing,))
        self.bar(thing)


class TestAsked(unittest.TestCase):
    def test_kind_of(self):
        for kind in ("thing", "spot", "num", "list", "tree"):
            self.assertEqual(kind_of(GROUND, name("x", kind)), kind)
        self.assertEqual(kind_of(GROUND, ZERO), "num")
        self.assertEqual(kind_of(GROUND, made("cons", ZERO, made("nil"))), "list")
        self.assertEqual(kind_of(GROUND, made("len", made("nil"))), "num")
        self.assertEqual(kind_of(GROUND, made("home")), "spot")

    def test_signs_of_terms(self):
        self.assertEqual(signs_of(XA), 1)
        self.assertEqual(signs_of(("bound", 3)), 1)
        self.assertEqual(signs_of(ZERO), 1)
        self.assertEqual(signs_of(num(9)), 10)
        self.assertEqual(signs_of(made("add", num(2), XA)), 5)
        self.assertEqual(signs_of(listed(num(1), num(0), num(2))), 10)
        for many in (1, 2, 3, 50, 200, 201, 999):
            self.assertEqual(signs_of(wide(many)), many)

    def test_signs_of_sayings(self):
        same = ("same", ZERO, made("next", ("bound", 0)))
        self.assertEqual(signs_of(("no",)), 1)
        self.assertEqual(signs_of(same), 4)
        self.assertEqual(signs_of(("not", ("no",))), 2)
        for word in ("and", "or", "so"):
            self.assertEqual(signs_of((word, same, ("not", ("no",)))), 7)
        for word in ("all", "some"):
            self.assertEqual(signs_of((word, "num", same)), 5)
        self.assertEqual(signs_of(("all", "num", ("some", "num", ("and", same, same)))), 11)

    def test_too_great(self):
        for many, great in ((999, False), (1000, False), (1001, True), (1200, True)):
            self.assertIs(is_too_great(wide(many)), great)
        self.assertFalse(is_too_great(num(59)))
        self.assertTrue(is_too_great(num(60)))

    def test_great(self):
        for many, great in ((199, False), (200, False), (201, True), (300, True)):
            self.assertIs(is_great(wide(many)), great)
        self.assertFalse(is_great(num(39)))
        self.assertTrue(is_great(num(40)))
        self.assertFalse(is_great(("same", num(38), XA)))
        self.assertTrue(is_great(("same", XA, num(39))))
        self.assertFalse(is_great(("and", ("same", wide(98), XA), ("same", wide(97), XA))))
        self.assertTrue(is_great(("and", ("same", wide(98), XA), ("same", wide(98), XA))))

    def test_of_so_many_signs(self):
        """A term of so many signs has twice as many tuples, where all are made."""
        for many in (1, 2, 3, 200, 1000):
            self.assertTrue(is_term_to(GROUND, wide(many), many))
            self.assertFalse(is_term_to(GROUND, wide(many + 1), many))
            self.assertTrue(is_term_to(GROUND, made("fork", wide(many), wide(many)), 2 * many + 1))
            self.assertFalse(is_term_to(GROUND, made("fork", wide(many), wide(many)), 2 * many))
        self.assertFalse(is_term_to(GROUND, doubled(100), 1000))
        self.assertTrue(is_saying_to(GROUND, ("same", ZERO, ZERO), 3))
        self.assertFalse(is_saying_to(GROUND, ("same", ZERO, ZERO), 2))
        for thing in THINGS + [Alike(), made("next", Alike()), made("next", ("bound", 0))]:
            self.assertFalse(is_term_to(GROUND, thing, 200))

    def test_names_of(self):
        self.assertEqual(names_of(ZERO), [])
        self.assertEqual(names_of(XA), [("xa", "num")])
        term = made("add", name("b"), made("add", name("a"), made("len", made("cons", name("b"), name("b", "list")))))
        self.assertEqual(names_of(term), [("a", "num"), ("b", "list"), ("b", "num")])
        self.assertEqual(names_of(made("add", XA, XA)), [("xa", "num")])
        self.assertEqual(names_of(made("next", ("bound", 0))), [])

    def test_told_lists_are_the_askers(self):
        names_of(XA).clear()
        self.assertEqual(names_of(XA), [("xa", "num")])


if __name__ == "__main__":
    unittest.main()
