import unittest

from goalsmith.data import data_to, is_data, size_of
from goalsmith.errors import NoData, TooMany
from goalsmith.grounds import Ground
from goalsmith.termtexts import read_ground
from tests.support import THINGS, XA, ZERO, ground, listed, made, name, num, plain_data, refused, wide

GROUND = ground()

# How many data there are of the kinds: six, four, five; 2000 are 6 ** 4 + 3 * 6 ** 3 + 6 ** 2 + 4 * 5.
SIX = "kind six: a; b; c; d; e; f\nkind four: g; h; i; j\nkind five: k; l; m; n; o\n"
MANY = "kind many: p(six, six, six, six); q(six, six, six); r(six, six, six); s(six, six, six); t(six, six); "
TWO_THOUSAND = read_ground(SIX + MANY + "u(four, five)\n")
# Seven data, the last one of the size 2, so there is one more, of the size 4.
SEVEN = "kind two: v; w\nkind seven: xo; xp; xq; xr; xs; xt(two)\nkind three: y; z; ya\n"
ONE_MORE = read_ground(SIX + SEVEN + MANY + "u(three, seven)\n")


class TestIsData(unittest.TestCase):
    def test_ordinary(self):
        for thing in (ZERO, num(3), listed(num(1), ZERO), wide(20), num(50), wide(300)):
            self.assertIs(is_data(GROUND, thing), True)

    def test_of_anything(self):
        for thing in THINGS:
            self.assertIs(is_data(GROUND, thing), False)

    def test_names_works_and_bound_ones(self):
        for thing in (XA, made("next", XA), made("one"), made("add", ZERO, ZERO), made("next", made("one"))):
            self.assertIs(is_data(GROUND, thing), False)
        for thing in (name("zero"), name("zero", "list"), made("next", name("zero"))):
            self.assertIs(is_data(GROUND, thing), False)
        for thing in (("bound", 0), made("next", ("bound", 0)), made("home"), name("x", "thing")):
            self.assertIs(is_data(GROUND, thing), False)
        for thing in (made("next", made("nil")), made("next"), ("made", "zero", []), made("age", name("x", "thing"))):
            self.assertIs(is_data(GROUND, thing), False)

    def test_sizes(self):
        self.assertEqual(size_of(ZERO), 1)
        self.assertEqual(size_of(num(6)), 7)
        self.assertEqual(size_of(listed(num(1), ZERO)), 6)
        self.assertEqual(size_of(wide(120)), 120)


class TestDataTo(unittest.TestCase):
    def test_numbers(self):
        self.assertEqual(data_to(GROUND, "num", 3), [num(0), num(1), num(2)])
        self.assertEqual(data_to(GROUND, "num", 1), [ZERO])
        self.assertEqual(data_to(GROUND, "num", 40), [num(many) for many in range(40)])

    def test_none(self):
        self.assertEqual(data_to(GROUND, "num", 0), [])
        one = read_ground("kind num: zero; next(num)\nkind duo: pair(num, num)\n")
        self.assertEqual(data_to(one, "duo", 2), [])
        self.assertEqual(data_to(one, "duo", 3), [made("pair", ZERO, ZERO)])

    def test_the_told_order(self):
        leaf, tip = made("leaf"), made("tip", made("leaf"))
        self.assertEqual(
            data_to(GROUND, "tree", 4),
            [
                leaf,
                tip,
                made("fork", leaf, leaf),
                made("tip", tip),
                made("fork", leaf, tip),
                made("fork", tip, leaf),
                made("tip", made("fork", leaf, leaf)),
                made("tip", made("tip", tip)),
            ],
        )
        # By size first, although nil is sorted behind cons.
        self.assertEqual(data_to(GROUND, "list", 3), [made("nil"), made("cons", ZERO, made("nil"))])

    def test_one_maker(self):
        one = read_ground("kind bit: o; i\nkind byte: of(bit, bit, bit, bit)\n")
        self.assertEqual(data_to(one, "byte", 4), [])
        told = data_to(one, "byte", 5)
        self.assertEqual(len(told), 16)
        self.assertEqual(told[0], made("of", *[made("i")] * 4))
        self.assertEqual(told[1], made("of", made("i"), made("i"), made("i"), made("o")))
        self.assertEqual(told[15], made("of", *[made("o")] * 4))
        self.assertEqual(data_to(one, "byte", 40), told)

    def test_against_trying_all(self):
        mixed = read_ground(
            "kind bit: o; i\nkind num: zero; next(num)\nkind mix: m(bit, num, bit); n(mix, num); e; w(mix, bit, mix)\n"
            "kind tall: t(mix, tall); u(num, num, num, bit); v(bit, tall, tall, mix)\n"
        )
        for one, kind, most in ((GROUND, "list", 9), (GROUND, "tree", 7), (mixed, "mix", 7), (mixed, "tall", 9)):
            told = data_to(one, kind, most)
            due = []
            for size in range(1, most + 1):
                due.extend(sorted(plain_data(one, kind, size)))
            self.assertEqual(told, due)
            self.assertTrue(all(is_data(one, data) for data in told))
            self.assertGreater(len(told), 20)

    def test_just_two_thousand(self):
        for most in (5, 6, 40):
            self.assertEqual(len(data_to(TWO_THOUSAND, "many", most)), 2000)
        self.assertEqual(len(data_to(ONE_MORE, "many", 3)), 36 + 18 - 3)
        refused(self, TooMany, data_to, ONE_MORE, "many", 5)
        refused(self, TooMany, data_to, ONE_MORE, "many", 40)
        refused(self, TooMany, data_to, GROUND, "tree", 40)
        refused(self, TooMany, data_to, GROUND, "list", 40)

    def test_one_more_of_the_last_size(self):
        # Of each size down to the last one there are as many as it has pairs of lesser ones.
        pairs = read_ground("kind num: zero; next(num)\nkind duo: pair(num, num); odd(num, num, num)\n")
        for most in range(1, 41):
            due = sum((size - 2) + (size - 2) * (size - 3) // 2 for size in range(3, most + 1))
            if due <= 2000:
                self.assertEqual(len(data_to(pairs, "duo", most)), due)
            else:
                refused(self, TooMany, data_to, pairs, "duo", most)

    def test_other_kinds_may_have_more(self):
        """What is counted but does not stand in what is told is not listed."""
        one = read_ground(
            "kind tree: leaf; fork(tree, tree, tree, tree); tip(tree); fan(tree, tree)\n"
            "kind tall: a(tree, tree, tree, tree)\nkind few: nil; far(few, tall, tree)\n"
        )
        leaf, nil = made("leaf"), made("nil")
        self.assertEqual(data_to(one, "few", 7), [nil])
        self.assertEqual(data_to(one, "few", 8), [nil, made("far", nil, made("a", leaf, leaf, leaf, leaf), leaf)])
        lone = Ground(one.kinds() + [("lone", [("here", []), ("there", ["lone"])])], [])
        self.assertEqual(len(data_to(lone, "lone", 40)), 40)

    def test_great_kinds_beside_tall_ones(self):
        one = read_ground(
            "kind tree: leaf; tip(tree); fork(tree, tree)\nkind low: l(tree, tree, tree, tree)\n"
            "kind mid: m(low, low, low, low)\nkind high: h(mid, low, low)\n"
            "kind few: f(tree, high)\nkind more: g(high, tree)\n"
        )
        for kind in ("few", "more"):
            self.assertEqual(data_to(one, kind, 33), [])
            self.assertEqual([len(data_to(one, kind, most)) for most in (34, 35)], [1, 1 + 25])

    def test_size_forty_of_wide_kinds(self):
        one = read_ground("kind dot: o\nkind row: end; link(dot, dot, row, dot)\n")
        told = data_to(one, "row", 40)
        self.assertEqual([size_of(data) for data in told], [1, 5, 9, 13, 17, 21, 25, 29, 33, 37])

    def test_no_data(self):
        for kind in ("thing", "spot", "zero", "add", "what", "", "love", "home"):
            refused(self, NoData, data_to, GROUND, kind, 3)
        for kind in THINGS:
            if kind != "num":
                refused(self, NoData, data_to, GROUND, kind, 3)
        refused(self, NoData, data_to, GROUND, "thing", 0)
        refused(self, NoData, data_to, Ground([], []), "num", 3)

    def test_a_told_list_is_the_askers(self):
        one = read_ground("kind num: zero; next(num)\nkind duo: pair(num, num)\n")
        told = data_to(one, "duo", 5)
        due = list(told)
        told.clear()
        self.assertEqual(data_to(one, "duo", 5), due)


if __name__ == "__main__":
    unittest.main()
