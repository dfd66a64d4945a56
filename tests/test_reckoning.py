import itertools
import unittest

from goalsmith.data import is_data
from goalsmith.errors import NoData, TooFar
from goalsmith.grounds import Ground
from goalsmith.reckoning import worth
from goalsmith.terms import MOST_DEEP, MOST_SIGNS, signs_of
from goalsmith.termtexts import read_ground, read_term
from tests.support import KINDS, THINGS, WORKS, XA, ZERO, depth_of, ground, listed, made, name, num, refused, wide

GROUND = ground()

LOOPS = read_ground(
    "kind num: zero; next(num)\n"
    "kind tree: leaf; tip(tree); fork(tree, tree)\n"
    "work first(num, num) num = xa:num\n"
    "work run(num) num at 0: zero; run(ya:num)\n"
    "work spin(num, num) num at 0: zero; first(spin(ya:num, xb:num), run(xb:num))\n"
    "work once(num) num = xa:num\n"
    "work drop(num) num = first(zero, next(xa:num))\n"
    "work lose(tree) num = zero\n"
    "work tipped(tree) num = lose(tip(xa:tree))\n"
    "work forked(tree) num = lose(fork(xa:tree, xa:tree))\n"
    "work deeper(num) num at 0: zero; " + "next(" * 35 + "deeper(ya:num)" + ")" * 35 + "\n"
    "work deep(num, num) num at 0: xb:num; " + "once(" * 36 + "deep(ya:num, xb:num)" + ")" * 36 + "\n"
)


def plain_worth(ground, term):
    """The worth of a term and how many puttings in it takes, by Python's own calls."""
    found, many = [], 0
    for part in term[2]:
        data, more = plain_worth(ground, part)
        found.append(data)
        many += more
    f = term[1]
    if ground.is_maker(f):
        return made(f, *found), many
    at = ground.falls_at(f)
    puts = {"x" + letter: data for letter, data in zip("abcd", found)}
    right = ground.rights(f)[0]
    if at is not None:
        puts.update({"y" + letter: data for letter, data in zip("abcd", found[at][2])})
        right = ground.rights(f)[ground.makers(ground.takes(f)[at]).index(found[at][1])]
    data, more = plain_worth(ground, plain_filled(right, puts))
    return data, many + more + 1


def plain_filled(term, puts):
    if term[0] == "name":
        return puts[term[1]]
    return made(term[1], *[plain_filled(part, puts) for part in term[2]])


class TestWorths(unittest.TestCase):
    def same(self, text, due, ground=GROUND):
        self.assertEqual(worth(ground, read_term(ground, text)), due)

    def test_makers(self):
        for data in (ZERO, num(5), listed(num(1), ZERO), wide(200), num(39)):
            self.assertEqual(worth(GROUND, data), data)
            self.assertEqual(worth(GROUND, data, 0), data)

    def test_plain_works(self):
        self.same("one", num(1))
        self.same("twice(next(next(zero)))", num(4))
        self.same("first(next(zero), zero)", num(1))
        self.same("first(zero, next(zero))", ZERO)
        self.same("next(twice(one))", num(3))

    def test_falling_works(self):
        self.assertEqual(worth(GROUND, made("add", num(3), num(4))), num(7))
        self.assertEqual(worth(GROUND, made("add", ZERO, num(4))), num(4))
        self.same("len(cons(zero, cons(one, nil)))", num(2))
        self.same("len(nil)", ZERO)
        self.same("size(fork(tip(leaf), fork(leaf, leaf)))", num(6))
        self.same("size(leaf)", num(1))

    def test_places_and_names(self):
        one = Ground(
            KINDS,
            [
                ("app", ["list", "num", "list"], "list", 2, [name("xa", "list"), made("cons", name("xb"), name("yb", "list"))]),
                ("head", ["num", "list"], "num", 1, [name("xa"), name("ya")]),
                ("third", ["num", "list", "num", "tree"], "num", 3, [name("xa"), name("xc"), name("xc")]),
                ("swap", ["num", "num", "num", "num"], "list", None, [listed(name("xd"), name("xc"), name("xb"), name("xa"))]),
            ],
        )
        three = listed(num(1), num(2))
        self.assertEqual(worth(one, made("app", three, num(3), listed())), three)
        self.assertEqual(worth(one, made("app", three, num(3), three)), listed(num(3), num(2)))
        self.assertEqual(worth(one, made("head", num(7), three)), num(1))
        self.assertEqual(worth(one, made("head", num(7), listed())), num(7))
        self.assertEqual(worth(one, made("third", num(1), listed(), num(3), made("leaf"))), num(1))
        self.assertEqual(worth(one, made("third", num(1), listed(), num(3), made("tip", made("leaf")))), num(3))
        self.assertEqual(worth(one, made("swap", *map(num, range(4)))), listed(*map(num, (3, 2, 1, 0))))

    def test_against_python_calls(self):
        numbers = [num(0), num(2), made("one"), made("twice", num(2)), made("len", listed(ZERO, made("one")))]
        trees = [made("leaf"), wide(5), made("fork", wide(4), made("tip", wide(2)))]
        terms = [made(f, a, b) for f in ("add", "first") for a, b in itertools.product(numbers, numbers)]
        terms += [made("size", tree) for tree in trees]
        terms += [made("twice", made("add", a, made("size", tree))) for a in numbers for tree in trees]
        for term in terms:
            data, many = plain_worth(GROUND, term)
            self.assertEqual(worth(GROUND, term), data)
            self.assertEqual(worth(GROUND, term, many), data)
            refused(self, TooFar, worth, GROUND, term, many - 1)

    def test_handed_in_is_worth_by_its_parts(self):
        """A term may be great itself where no worth in it is."""
        term = made("lose", made("leaf"))
        for _ in range(45):
            term = made("once", term)
        self.assertEqual(worth(LOOPS, term), ZERO)
        term = ZERO
        for _ in range(45):
            term = made("first", term, num(5))
        self.assertGreater(signs_of(term), 300)
        self.assertEqual(worth(LOOPS, term), ZERO)


class TestPuttingsIn(unittest.TestCase):
    def just(self, ground, term, many, due):
        self.assertEqual(worth(ground, term, many), due)
        self.assertEqual(worth(ground, term, many + 1), due)
        for fewer in {many - 1, many // 2, 0} - {many}:
            refused(self, TooFar, worth, ground, term, fewer)

    def test_just_as_many(self):
        self.just(GROUND, made("one"), 1, num(1))
        self.just(GROUND, made("add", num(3), num(4)), 4, num(7))
        self.just(GROUND, made("twice", num(3)), 5, num(6))
        self.just(GROUND, made("len", listed(ZERO, ZERO)), 3, num(2))
        self.just(GROUND, made("next", made("next", made("one"))), 1, num(3))

    def test_parts_that_are_not_used_count(self):
        self.just(GROUND, made("first", ZERO, made("twice", num(3))), 6, ZERO)
        self.just(LOOPS, made("lose", made("leaf")), 1, ZERO)
        self.just(LOOPS, made("drop", made("run", num(4))), 5 + 2, ZERO)

    def test_parts_are_reckoned_once(self):
        self.just(GROUND, made("twice", made("twice", num(2))), (1 + 3) + (1 + 5), num(8))

    def test_a_thousand_where_none_is_told(self):
        thousand = made("spin", num(27), num(34))
        self.just(LOOPS, thousand, 1000, ZERO)
        self.assertEqual(worth(LOOPS, thousand), ZERO)
        refused(self, TooFar, worth, LOOPS, made("once", thousand))
        self.assertEqual(worth(LOOPS, made("once", thousand), 1001), ZERO)
        refused(self, TooFar, worth, LOOPS, made("spin", num(39), num(39)))
        self.assertEqual(worth(LOOPS, made("spin", num(39), num(39)), 5000), ZERO)

    def test_deep_works(self):
        """Works go down deeper here than Python's calls may."""
        self.just(LOOPS, made("deep", num(39), num(3)), 40 + 36 * 39, num(3))
        refused(self, TooFar, worth, LOOPS, made("deeper", num(39)), 10 ** 6)
        self.assertEqual(worth(LOOPS, made("deeper", num(1))), num(35))


class TestGreatWorths(unittest.TestCase):
    def test_signs(self):
        self.assertEqual((MOST_SIGNS, MOST_DEEP), (200, 40))
        self.assertEqual(worth(LOOPS, wide(200)), wide(200))
        refused(self, TooFar, worth, LOOPS, wide(201))
        self.assertEqual(worth(LOOPS, made("tip", wide(199))), made("tip", wide(199)))
        refused(self, TooFar, worth, LOOPS, made("tip", wide(200)))

    def test_depth(self):
        self.assertEqual(depth_of(num(39)), 40)
        self.assertEqual(worth(GROUND, num(39)), num(39))
        refused(self, TooFar, worth, GROUND, num(40))
        self.assertEqual(worth(GROUND, made("add", num(20), num(19))), num(39))
        refused(self, TooFar, worth, GROUND, made("add", num(20), num(20)))

    def test_parts_handed_in(self):
        self.assertEqual(worth(LOOPS, made("lose", wide(200))), ZERO)
        refused(self, TooFar, worth, LOOPS, made("lose", wide(201)))
        self.assertEqual(worth(LOOPS, made("first", ZERO, num(39))), ZERO)
        refused(self, TooFar, worth, LOOPS, made("first", ZERO, num(40)))

    def test_parts_of_rights(self):
        self.assertEqual(worth(LOOPS, made("drop", num(38))), ZERO)
        refused(self, TooFar, worth, LOOPS, made("drop", num(39)))
        self.assertEqual(worth(LOOPS, made("tipped", wide(199))), ZERO)
        refused(self, TooFar, worth, LOOPS, made("tipped", wide(200)))
        self.assertEqual(worth(LOOPS, made("forked", wide(99))), ZERO)
        refused(self, TooFar, worth, LOOPS, made("forked", wide(100)))

    def test_great_while_few_are_done(self):
        # A great worth is told although the number let is not used up.
        refused(self, TooFar, worth, GROUND, made("twice", num(20)), 10 ** 9)


class TestThoseThatTakeLongest(unittest.TestCase):
    """Two inputs that were told slowly; what they are worth is as ever."""

    ROWS = read_ground(
        "kind num: next(num); zero\n"
        "kind row: put(num, row); nil\n"
        "work plus(num, num) num at 1: next(plus(xa:num, ya:num)); xa:num\n"
        "work times(num, num) num at 0: plus(xb:num, times(ya:num, xb:num)); zero\n"
    )
    TREES = read_ground(
        "kind tree: one(tree); two(tree, tree); leaf\n"
        "work grow(tree) tree = one(xa:tree)\n"
        "work pair(tree) tree = two(xa:tree, xa:tree)\n"
        "work first(tree, tree) tree = xa:tree\n"
        "work hide(tree) tree = first(leaf, two(xa:tree, xa:tree))\n"
    )

    def test_times(self):
        refused(self, TooFar, worth, self.ROWS, made("times", num(14), num(4)))
        self.assertEqual(worth(self.ROWS, made("times", num(9), num(4))), num(36))
        refused(self, TooFar, worth, self.ROWS, made("times", num(10), num(4)))

    def hidden(self, many):
        term = made("leaf")
        for _ in range(many):
            term = made("hide", term)
        return term

    def test_hide(self):
        term = self.hidden(12)
        for _ in range(16):
            term = made("first", self.hidden(30), term)
        self.assertEqual(signs_of(term), 16 * 32 + 13)
        self.assertEqual(worth(self.TREES, term), made("leaf"))
        self.assertEqual(worth(self.TREES, term, 1000), made("leaf"))
        refused(self, TooFar, worth, self.TREES, term, 999)


class TestNoData(unittest.TestCase):
    def bar(self, term, ground=GROUND):
        for more in ((), (0,), (1,), (1000,)):
            refused(self, NoData, worth, ground, term, *more)

    def test_of_anything(self):
        for thing in THINGS:
            self.bar(thing)
        self.bar(["made", "zero", ()])
        self.bar(("made", "zero", []))

    def test_names_and_bound_ones(self):
        self.bar(XA)
        self.bar(made("next", XA))
        self.bar(name("zero"))
        self.bar(made("next", name("zero")))
        self.bar(made("first", ZERO, XA))
        self.bar(("bound", 0))
        self.bar(made("next", ("bound", 0)))

    def test_open_works(self):
        one = Ground(KINDS, WORKS + [("odd", ["num"], "num", None, []), ("someone", [], "list", None, [])])
        self.bar(made("odd", ZERO), one)
        self.bar(made("add", ZERO, made("odd", ZERO)), one)
        self.bar(made("next", made("len", made("someone"))), one)
        self.bar(made("home"), one)

    def test_no_terms(self):
        self.bar(made("next"))
        self.bar(made("what"))
        self.bar(made("add", ZERO, made("nil")))

    def test_no_data_goes_first(self):
        self.bar(made("add", made("twice", num(39)), XA))
        self.bar(made("add", num(50), made("add", ZERO, XA)))
        self.bar(made("first", made("spin", num(39), num(39)), XA), LOOPS)

    def test_data_of_it(self):
        self.assertTrue(is_data(GROUND, worth(GROUND, made("twice", made("one")))))


if __name__ == "__main__":
    unittest.main()
