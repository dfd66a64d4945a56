import copy
import unittest

from goalsmith.errors import NoGround
from goalsmith.grounds import Ground
from tests.support import KINDS, THINGS, WORKS, XA, XB, YA, ZERO, ground, made, name, num, refused

NUM = ("num", [("zero", []), ("next", ["num"])])
THING = ("thing", [])
BOOL = ("bool", [("yes", []), ("nay", [])])
PAIR = ("pair", [("duo", ["num", "bool", "num"])])
ADD = ("add", ["num", "num"], "num", 0, [XB, made("next", made("add", YA, XB))])
TWICE = ("twice", ["num"], "num", None, [made("add", XA, XA)])
OPEN = ("odd", ["num"], "num", None, [])


class TestTold(unittest.TestCase):
    def test_kinds_and_works_as_handed_in(self):
        one = ground()
        self.assertEqual(one.kinds(), KINDS)
        self.assertEqual(one.works(), WORKS)
        self.assertEqual(Ground([], []).kinds(), [])
        self.assertEqual(Ground([], []).works(), [])

    def test_makers_and_works(self):
        one = ground()
        self.assertEqual(one.makers("num"), ["zero", "next"])
        self.assertEqual(one.makers("tree"), ["leaf", "tip", "fork"])
        self.assertEqual(one.makers("thing"), [])
        self.assertEqual(one.takes("zero"), [])
        self.assertEqual(one.takes("cons"), ["num", "list"])
        self.assertEqual(one.takes("pick"), ["thing", "num", "thing"])
        self.assertEqual(one.gives("cons"), "list")
        self.assertEqual(one.gives("len"), "num")
        self.assertEqual(one.gives("home"), "spot")

    def test_places_and_rights(self):
        one = ground()
        self.assertIsNone(one.falls_at("love"))
        self.assertIsNone(one.falls_at("twice"))
        self.assertEqual(one.falls_at("add"), 0)
        self.assertEqual(one.falls_at("pick"), 1)
        self.assertEqual(one.rights("love"), [])
        self.assertEqual(one.rights("twice"), [made("add", XA, XA)])
        self.assertEqual(one.rights("add"), ADD[4])

    def test_what_a_name_is(self):
        one = ground()
        kinds = ["thing", "spot", "num", "list", "tree"]
        makers = ["zero", "next", "nil", "cons", "leaf", "tip", "fork"]
        works = [work[0] for work in WORKS]
        for word in kinds + makers + works + ["other", "xa", ""]:
            self.assertIs(one.is_kind(word), word in kinds)
            self.assertIs(one.is_maker(word), word in makers)
            self.assertIs(one.is_work(word), word in works)
            self.assertIs(one.is_open(word), word in ("thing", "spot", "love", "home", "age"))

    def test_of_anything(self):
        one = ground()
        for thing in THINGS:
            self.assertIs(one.is_kind(thing), thing == "num")
            self.assertIs(one.is_maker(thing), thing == "zero")
            self.assertIs(one.is_work(thing), False)
            self.assertIs(one.is_open(thing), False)


class TestChangedBehind(unittest.TestCase):
    def test_what_was_handed_in(self):
        kinds, works = copy.deepcopy(KINDS), copy.deepcopy(WORKS)
        one = Ground(kinds, works)
        self.assertEqual((kinds, works), (KINDS, WORKS))
        kinds[2][1][1][1].append("num")
        kinds[2][1].append(("last", []))
        kinds.clear()
        works[3][1].append("num")
        works[3][4].clear()
        works.pop()
        self.assertEqual(one.kinds(), KINDS)
        self.assertEqual(one.works(), WORKS)
        self.assertEqual(one.makers("num"), ["zero", "next"])
        self.assertEqual(one.takes("next"), ["num"])

    def test_what_was_told(self):
        one = ground()
        told = one.kinds()
        told[2][1][1][1].append("num")
        told[2][1].pop()
        told.clear()
        told = one.works()
        told[3][1].clear()
        told[3][4].append(ZERO)
        told.clear()
        for rows in (one.takes("next"), one.takes("add"), one.makers("num"), one.rights("add"), one.rights("love")):
            rows.append("num")
        self.assertEqual(one.kinds(), KINDS)
        self.assertEqual(one.works(), WORKS)
        self.assertEqual(one.makers("num"), ["zero", "next"])
        self.assertEqual(one.takes("add"), ["num", "num"])
        self.assertEqual(one.rights("love"), [])
        self.assertTrue(one.is_open("love"))


class TestKinds(unittest.TestCase):
    def let(self, kinds):
        self.assertEqual(Ground(kinds, []).kinds(), kinds)

    def bar(self, kinds):
        refused(self, NoGround, Ground, kinds, [])

    def test_ordinary(self):
        self.let([NUM])
        self.let([THING, NUM, BOOL, PAIR])
        self.let([("list", [("cons", ["list"]), ("nil", [])])])
        # Only one maker must not take the kind itself.
        self.let([NUM, ("tree", [("fork", ["tree", "tree"]), ("leaf", ["num"]), ("tip", ["tree"])])])

    def test_no_list_no_tuple(self):
        for thing in THINGS:
            if thing != []:
                self.bar(thing)
            if thing != ("bound", []):
                self.bar([NUM, thing])
            if thing != []:
                self.bar([NUM, ("kind", thing)])
            if thing != ("bound", []):
                self.bar([NUM, ("kind", [("a", []), thing])])
            if thing not in ([], ["num"]):
                self.bar([NUM, ("kind", [("a", []), ("b", thing)])])
            if thing != "num":
                self.bar([NUM, ("kind", [("a", []), ("b", [thing])])])
        self.bar((NUM,))
        self.bar([list(NUM)])
        self.bar([("num", tuple(NUM[1]))])
        self.bar([("num", [["zero", []], ("next", ["num"])])])
        self.bar([("num", [("zero", ()), ("next", ["num"])])])
        self.bar([("num", [("zero", []), ("next", ("num",))])])
        self.bar([("num", None)])

    def test_lengths_of_tuples(self):
        self.bar([("num",)])
        self.bar([NUM + ([],)])
        self.bar([("num", [("zero",)])])
        self.bar([("num", [("zero", [], [])])])

    def test_names(self):
        for word in ("a", "abcdefgh", "xa", "kind", "at", "work", "nor"):
            self.let([(word, [])])
            self.let([("num", [(word, [])])])
        wrong = ["", "abcdefghi", "A", "aB", "a b", "a1", "a_b", "\u00e9", "a\n", "no", "not", "and", "or", "so"]
        for word in wrong + ["all", "some", 1, True, None, ("a",), ["a"], b"a"]:
            self.bar([(word, [])])
            self.bar([("num", [(word, [])])])

    def test_bounds(self):
        eight = [(word, []) for word in "abcdefgh"]
        self.let(eight)
        self.bar(eight + [("i", [])])
        six = [(word, []) for word in "abcdef"]
        self.let([("num", six)])
        self.bar([("num", six + [("g", [])])])
        self.let([NUM, ("row", [("four", ["num"] * 4)])])
        self.bar([NUM, ("row", [("five", ["num"] * 5)])])

    def test_takes(self):
        self.bar([("num", [("zero", ["what"])])])
        self.bar([("row", [("duo", ["num"])]), NUM])
        self.bar([THING, ("row", [("duo", ["thing"])])])
        self.bar([THING, ("row", [("nil", []), ("cons", ["thing", "row"])])])
        self.bar([NUM, ("row", [("duo", ["zero"])])])

    def test_a_maker_without_its_own(self):
        self.bar([("num", [("next", ["num"])])])
        self.bar([NUM, ("row", [("a", ["num", "row"]), ("b", ["row", "row"])])])

    def test_unlike_names(self):
        self.bar([NUM, ("num", [])])
        self.bar([("num", [("num", [])])])
        self.bar([("num", [("zero", []), ("zero", [])])])
        self.bar([NUM, ("row", [("zero", [])])])
        self.bar([NUM, ("zero", [])])
        self.bar([NUM, ("row", [("num", [])])])


class TestWorks(unittest.TestCase):
    kinds = [THING, NUM, BOOL, PAIR]

    def let(self, *works):
        self.assertEqual(Ground(self.kinds, list(works)).works(), list(works))

    def bar(self, *works):
        refused(self, NoGround, Ground, self.kinds, list(works))

    def test_ordinary(self):
        self.let()
        self.let(ADD, TWICE, OPEN)
        self.let(("like", ["thing", "num"], "bool", None, []), ("home", [], "thing", None, []))
        self.let(("fst", ["pair"], "num", 0, [YA]), ("trd", ["pair"], "num", 0, [name("yc")]))
        self.let(("both", ["bool", "bool"], "bool", 1, [name("xa", "bool"), made("nay")]))
        self.let(("keep", ["thing"], "thing", None, [name("xa", "thing")]))

    def test_no_list_no_tuple(self):
        for thing in THINGS:
            if thing != []:
                refused(self, NoGround, Ground, self.kinds, thing)
            self.bar(ADD, thing)
            if thing not in ([], ["num"]):
                self.bar(("f", thing, "num", None, []))
            if thing != "num":
                self.bar(("f", [], thing, None, []))
                self.bar(("f", [thing], "num", None, []))
            if thing is not None:
                self.bar(("f", ["num"], "num", thing, []))
            if thing != []:
                self.bar(("f", ["num"], "num", None, thing))
            self.bar(("f", ["num"], "num", None, [thing]))
        refused(self, NoGround, Ground, self.kinds, (ADD,))
        self.bar(list(ADD))
        self.bar(("f", ("num",), "num", None, []))
        self.bar(("f", ["num"], "num", None, ()))
        self.bar(("f", ["num"], "num", None, (ZERO,)))
        self.bar(("f", ["num"], "num", None, [["made", "zero", ()]]))
        self.bar(("f", ["num"], "num", None, [("made", "zero", [])]))

    def test_lengths_of_tuples(self):
        self.bar(("f", ["num"], "num", None))
        self.bar(("f", ["num"], "num", None, [], []))

    def test_names(self):
        for word in ("a", "abcdefgh", "xa", "ya"):
            self.let((word, ["num"], "num", None, []))
        for word in ("", "abcdefghi", "no", "some", "F", "f1", None, 1, True, ("f",)):
            self.bar((word, ["num"], "num", None, []))

    def test_unlike_names(self):
        for word in ("num", "zero", "thing", "yes", "odd"):
            self.bar(OPEN, (word, ["num"], "num", None, []))

    def test_bounds(self):
        self.let(("f", ["num"] * 4, "num", None, []))
        self.bar(("f", ["num"] * 5, "num", None, []))
        works = [(f"f{chr(97 + k)}", [], "num", None, []) for k in range(17)]
        self.let(*works[:16])
        self.bar(*works)
        self.let(("f", [], "num", None, [num(39)]))
        self.bar(("f", [], "num", None, [num(40)]))
        self.let(ADD, ("f", ["num"], "num", None, [made("add", num(18), num(19))]))
        self.bar(ADD, ("f", ["num"], "num", None, [made("add", num(19), num(19))]))

    def test_kinds(self):
        self.bar(("f", ["what"], "num", None, []))
        self.bar(("f", ["num"], "what", None, []))
        self.bar(("f", ["zero"], "num", None, []))

    def test_plain(self):
        self.bar(("f", ["num"], "num", None, [ZERO, ZERO]))
        self.bar(("f", ["num"], "bool", None, [ZERO]))

    def test_falling(self):
        two = [ZERO, ZERO]
        self.let(("f", ["bool", "num"], "num", 0, two))
        self.let(("f", ["bool", "num"], "num", 1, two))
        for at in (2, -1, -2, 10 ** 30, True, False, "0", 0.0, [0], (0,)):
            self.bar(("f", ["bool", "num"], "num", at, two))
        self.bar(("f", ["bool"], "num", 0, [ZERO]))
        self.bar(("f", ["bool"], "num", 0, two + [ZERO]))
        self.bar(("f", ["bool"], "num", 0, []))
        self.bar(("f", ["thing"], "num", 0, []))
        self.bar(("f", ["thing", "bool"], "num", 0, two))
        self.bar(("f", [], "num", 0, []))
        self.let(("f", ["num", "pair"], "num", 1, [ZERO]))

    def test_names_in_plain_rights(self):
        takes = ["num", "bool", "num", "thing"]
        self.let(("f", takes, "num", None, [XA]))
        self.let(("f", takes, "bool", None, [name("xb", "bool")]))
        self.let(("f", takes, "num", None, [name("xc")]))
        self.let(("f", takes, "thing", None, [name("xd", "thing")]))
        for x in ("xb", "xd", "xe", "x", "a", "xaa", "ya", "yc"):
            self.bar(("f", takes, "num", None, [name(x)]))
        self.bar(("f", takes, "bool", None, [name("xa", "bool")]))
        self.bar(("f", takes, "num", None, [name("xa", "bool")]))
        self.bar(("f", ["num"], "num", None, [XB]))
        self.bar(("f", ["num"], "num", None, [made("next", name("xa", "bool"))]))

    def test_names_in_falling_rights(self):
        takes = ["num", "pair", "bool"]
        for x, kind in (("xa", "num"), ("xc", "bool"), ("ya", "num"), ("yb", "bool"), ("yc", "num")):
            self.let(("f", takes, kind, 1, [name(x, kind)]))
        for x, kind in (("xb", "pair"), ("xb", "num"), ("xd", "num"), ("yd", "num"), ("ya", "bool"), ("yb", "num")):
            self.bar(("f", takes, kind, 1, [name(x, kind)]))
        # What one maker takes is not there for another one.
        self.bar(("f", ["num"], "num", 0, [YA, ZERO]))
        self.let(("f", ["num"], "num", 0, [ZERO, YA]))
        self.bar(("f", ["num"], "num", 0, [ZERO, XA]))

    def test_no_bound_ones(self):
        self.bar(("f", ["num"], "num", None, [("bound", 0)]))
        self.bar(("f", ["num"], "num", None, [made("next", ("bound", 0))]))

    def test_works_in_rights(self):
        self.let(OPEN, ADD, ("f", ["num"], "num", None, [made("add", XA, ZERO)]))
        self.bar(("f", ["num"], "num", None, [made("add", XA, ZERO)]), ADD)
        self.bar(OPEN, ADD, ("f", ["num"], "num", None, [made("odd", XA)]))
        self.bar(OPEN, ADD, ("f", ["num"], "num", None, [made("add", ZERO, made("next", made("odd", XA)))]))
        self.bar(("f", ["num"], "num", None, [made("f", XA)]))
        self.bar(("f", ["num"], "num", None, [made("add", XA)]))
        self.bar(ADD, ("f", ["num"], "num", None, [made("add", XA)]))

    def test_the_work_itself(self):
        def falling(right):
            return ("f", ["num", "num"], "num", 0, [ZERO, right])

        self.let(falling(made("f", YA, XB)))
        self.let(falling(made("f", YA, YA)))
        self.let(falling(made("next", made("f", YA, made("next", YA)))))
        self.let(falling(made("f", YA, made("f", YA, XB))))
        for first in (XB, ZERO, num(1), made("next", YA), made("f", YA, XB), XA):
            self.bar(falling(made("f", first, XB)))
        self.bar(falling(made("f", YA, made("f", XB, XB))))
        self.bar(falling(made("f", YA, made("f", XB, YA))))
        # Also where another right is wrong alone, and at a later place.
        self.bar(("f", ["num", "num"], "num", 0, [made("f", XB, XB), ZERO]))
        self.let(("f", ["num", "num"], "num", 1, [ZERO, made("f", XA, YA)]))
        self.bar(("f", ["num", "num"], "num", 1, [ZERO, made("f", YA, XA)]))
        self.let(("f", ["num", "num"], "num", 1, [ZERO, made("f", YA, YA)]))
        # What is made does not do, though its maker has such a name.
        named = [("num", [("ya", []), ("yb", ["num"])])]
        for first in (made("ya"), made("yb", YA)):
            refused(self, NoGround, Ground, named, [("f", ["num"], "num", 0, [made("ya"), made("f", first)])])
        self.assertTrue(Ground(named, [("f", ["num"], "num", 0, [made("ya"), made("f", YA)])]).is_work("f"))
        # A part of the maker of another kind does not do.
        self.bar(("f", ["pair", "num"], "num", 0, [made("f", YA, XB)]))
        self.bar(("f", ["pair", "num"], "num", 0, [made("f", name("ya", "pair"), XB)]))


if __name__ == "__main__":
    unittest.main()
