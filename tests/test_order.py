import itertools
import time
import unittest

from goalsmith.grounds import Ground
from goalsmith.order import is_greater
from goalsmith.terms import signs_of
from goalsmith.termtexts import read_ground
from tests.support import ZERO, made, name, num

ORDERED = read_ground(
    "kind num: zero; next(num)\n"
    "kind list: nil; cons(num, list)\n"
    "kind open\n"
    "work strange(num, num) num\n"
    "work add(num, num) num at 0: xb:num; next(add(ya:num, xb:num))\n"
    "work sub(num, num) num at 1: xa:num; sub(xa:num, ya:num)\n"
    "work join(num, num) num = add(xa:num, xb:num)\n"
    "work len(list) num at 0: zero; next(len(yb:list))\n"
    "work third(num, num, num) num at 2: xa:num; third(xb:num, xa:num, ya:num)\n"
)
A, B, C = (name(x) for x in "abc")


def bound(k):
    return ("bound", k)


def plain_stands(term, within):
    return term == within or (within[0] == "made" and any(plain_stands(term, part) for part in within[2]))


def plain_ranks(ground):
    makers = [f for _, makers in ground.kinds() for f, _ in makers]
    return makers + [work[0] for work in ground.works()]


def plain_greater(ground, s, t):
    """The order as the document tells it, without a thought for time."""
    if "bound" in (s[0], t[0]):
        return t[0] == "bound" and s != t and plain_stands(t, s)
    if s[0] == "name":
        return t[0] == "name" and (s[1], s[2]) > (t[1], t[2])
    if any(part == t or plain_greater(ground, part, t) for part in s[2]):
        return True
    if t[0] == "name":
        return True
    if not all(plain_greater(ground, s, part) for part in t[2]):
        return False
    f, g = s[1], t[1]
    if f != g:
        return plain_ranks(ground).index(g) < plain_ranks(ground).index(f)
    places = list(range(len(s[2])))
    if ground.is_work(f) and ground.falls_at(f) is not None:
        places.sort(key=lambda place: place != ground.falls_at(f))
    for place in places:
        if s[2][place] != t[2][place]:
            return plain_greater(ground, s[2][place], t[2][place])
    return False


class OrderTest(unittest.TestCase):
    def greater(self, one, other, ground=ORDERED):
        """The one is greater, and not the other way round."""
        self.assertIs(is_greater(ground, one, other), True, (one, other))
        self.assertIs(is_greater(ground, other, one), False, (one, other))

    def neither(self, one, other, ground=ORDERED):
        self.assertIs(is_greater(ground, one, other), False, (one, other))
        self.assertIs(is_greater(ground, other, one), False, (one, other))


class TestSentences(OrderTest):
    def test_a_part_is_it_or_greater(self):
        self.greater(made("next", A), A)
        self.greater(made("next", ZERO), ZERO)
        self.greater(made("next", made("add", A, B)), made("add", A, B))
        self.greater(made("cons", ZERO, name("a", "list")), ZERO)
        self.greater(num(4), num(2))
        self.greater(made("next", made("add", A, B)), num(5))
        # A lower maker, too, is greater by what stands in it.
        self.greater(made("next", made("len", made("nil"))), made("add", A, B) and made("next", ZERO))
        self.greater(made("next", made("join", A, A)), made("add", A, A))

    def test_a_free_name(self):
        """Whatever is made is greater than a free name, which needs not stand in it."""
        for term in (ZERO, made("nil"), num(2), made("strange", ZERO, ZERO), made("add", B, C), made("next", B)):
            self.greater(term, A)
            self.greater(term, name("zz", "list"))

    def test_what_was_told_earlier_is_lower(self):
        self.greater(num(1), ZERO)
        self.greater(made("nil"), ZERO)
        self.greater(made("nil"), num(3))
        self.greater(made("cons", A, made("nil")), made("nil"))
        self.greater(made("join", A, B), made("add", A, B))
        self.greater(made("join", A, B), made("add", B, A))
        self.greater(made("join", A, B), made("add", made("add", A, A), num(7)))
        self.greater(made("add", A, B), made("strange", B, B))
        self.greater(made("sub", A, B), made("add", B, A))

    def test_makers_are_lower_than_works(self):
        self.greater(made("strange", ZERO, ZERO), made("nil"))
        self.greater(made("strange", ZERO, ZERO), num(9))
        self.greater(made("strange", A, B), made("cons", A, made("nil")))
        self.greater(made("add", A, B), made("next", made("next", made("strange", B, A))))

    def test_each_part_of_the_lesser_is_less(self):
        self.greater(made("strange", made("join", A, A), ZERO), made("add", A, ZERO))
        self.greater(made("add", made("third", ZERO, ZERO, ZERO), A), made("join", A, ZERO))
        self.greater(made("third", ZERO, ZERO, ZERO), made("add", made("join", A, A), A))

    def test_first_place_where_unlike(self):
        self.greater(made("strange", num(1), ZERO), made("strange", ZERO, num(1)))
        self.greater(made("strange", ZERO, num(2)), made("strange", ZERO, num(1)))
        self.greater(made("strange", B, A), made("strange", A, B))
        self.greater(made("cons", num(1), made("nil")), made("cons", ZERO, made("nil")))
        self.greater(made("join", num(1), ZERO), made("join", ZERO, num(1)))
        # Greater in the first unlike place, but not than a part.
        self.greater(made("strange", ZERO, made("join", A, A)), made("strange", num(1), ZERO))

    def test_the_told_place_first(self):
        self.greater(made("add", num(1), ZERO), made("add", ZERO, num(1)))
        self.greater(made("sub", ZERO, num(1)), made("sub", num(1), ZERO))
        self.greater(made("sub", A, num(2)), made("sub", A, num(1)))
        self.greater(made("sub", num(2), A), made("sub", num(1), A))
        self.greater(made("third", ZERO, ZERO, num(1)), made("third", num(1), num(1), ZERO))
        self.greater(made("third", num(1), ZERO, B), made("third", ZERO, num(1), B))
        self.greater(made("third", A, num(1), B), made("third", A, ZERO, B))

    def test_free_names(self):
        self.greater(B, A)
        self.greater(name("aa"), A)
        self.greater(name("a", "open"), name("a", "num"))
        self.greater(name("b", "list"), name("a", "open"))
        self.greater(name("b"), name("aa", "open"))
        for x in ("a", "zz"):
            self.neither(name(x), name(x))
            self.assertFalse(is_greater(ORDERED, name(x), ZERO))

    def test_bound_ones(self):
        self.greater(made("next", bound(0)), bound(0))
        self.greater(made("add", ZERO, made("next", bound(3))), bound(3))
        self.neither(bound(0), bound(0))
        self.neither(bound(0), bound(1))
        for term in (A, ZERO, num(3), made("next", bound(1)), made("add", A, bound(2))):
            self.neither(term, bound(0))

    def test_bound_ones_in_what_is_compared(self):
        self.greater(made("add", bound(0), bound(1)), made("strange", bound(1), bound(0)))
        self.neither(made("add", bound(0), bound(1)), made("strange", bound(1), bound(2)))
        self.neither(made("add", bound(0), bound(1)), made("add", bound(1), bound(0)))
        self.greater(made("add", made("next", bound(0)), bound(1)), made("next", made("add", bound(0), bound(1))))
        self.neither(made("add", bound(0), ZERO), made("add", bound(1), ZERO))

    def test_a_term_and_itself(self):
        for term in (A, ZERO, bound(0), num(5), made("add", A, bound(0)), made("third", A, B, C), made("nil")):
            self.neither(term, term)

    def test_each_right_is_less(self):
        for ground in (ORDERED, wide_works()):
            for f, takes, _, at, rights in ground.works():
                xs = [name("x" + letter, kind) for letter, kind in zip("abcd", takes)]
                makers = ground.makers(takes[at]) if at is not None else [None]
                for maker, right in zip(makers, rights):
                    parts = list(xs)
                    if maker is not None:
                        parts[at] = made(maker, *[name("y" + letter, kind) for letter, kind in zip("abcd", ground.takes(maker))])
                    self.greater(made(f, *parts), right, ground)


def wide_works():
    tree = [("tree", [("leaf", []), ("fork", ["tree", "tree"])])]
    ya, yb, xa = (name(x, "tree") for x in ("ya", "yb", "xa"))
    return Ground(tree, [
        ("turn", ["tree"], "tree", 0, [made("leaf"), made("fork", made("turn", yb), made("turn", ya))]),
        ("graft", ["tree", "tree"], "tree", 1, [xa, made("fork", made("graft", made("fork", xa, xa), ya), made("graft", made("turn", xa), yb))]),
        ("more", ["tree"], "tree", None, [made("graft", xa, made("turn", xa))]),
    ])


class TestAgainstTheText(OrderTest):
    def test_all_pairs(self):
        leaves = [A, B, bound(0), ZERO]
        terms = leaves + [name("a", "list"), made("nil"), bound(1)]
        terms += [made("next", leaf) for leaf in leaves]
        terms += [made(f, one, other) for f in ("strange", "add", "sub") for one, other in itertools.product(leaves, repeat=2)]
        terms += [made("join", made("next", A), made("add", B, ZERO)), made("third", A, B, num(1)), made("third", B, A, num(1))]
        terms += [made("next", made("next", made("add", A, B))), made("len", made("cons", A, made("nil")))]
        for one, other in itertools.product(terms, repeat=2):
            self.assertIs(is_greater(ORDERED, one, other), plain_greater(ORDERED, one, other), (one, other))

    def test_deeper_pairs(self):
        inner = [A, ZERO, bound(0), made("add", bound(0), A), made("sub", num(1), ZERO), made("next", B)]
        terms = [made(f, one, other) for f in ("add", "sub", "join") for one, other in itertools.product(inner, repeat=2)]
        for one, other in itertools.product(terms, repeat=2):
            self.assertIs(is_greater(ORDERED, one, other), plain_greater(ORDERED, one, other), (one, other))

    def test_two_are_never_greater_than_each_other(self):
        terms = [made(f, one, other) for f in ("add", "sub") for one, other in itertools.product([A, B, ZERO, num(1)], repeat=2)]
        for one, other in itertools.combinations(terms, 2):
            self.assertFalse(is_greater(ORDERED, one, other) and is_greater(ORDERED, other, one))
            # Without bound ones, any two that are unlike are told apart.
            self.assertTrue(is_greater(ORDERED, one, other) or is_greater(ORDERED, other, one))


class TestTime(OrderTest):
    def tower(self, leaf, many, f="strange"):
        term = leaf
        for at in range(many):
            term = made(f, term, ZERO) if at % 2 else made(f, ZERO, term)
        return term

    def test_alike_down_to_their_leaves(self):
        start = time.monotonic()
        for f in ("strange", "add", "sub", "join"):
            for many in (13, 19, 20):
                one, other = self.tower(num(1), many, f), self.tower(ZERO, many, f)
                self.greater(one, other)
                self.neither(self.tower(bound(0), many, f), self.tower(bound(1), many, f))
        self.assertLess(time.monotonic() - start, 20)

    def balanced(self, deep, leaf, f="strange"):
        return leaf if deep == 0 else made(f, self.balanced(deep - 1, leaf, f), self.balanced(deep - 1, leaf, f))

    def test_wide_ones(self):
        start = time.monotonic()
        for f in ("strange", "sub"):
            self.greater(self.balanced(5, num(1), f), self.balanced(5, ZERO, f))
            self.neither(self.balanced(6, bound(0), f), self.balanced(6, bound(1), f))
        unlike = [made("strange", num(at), num(at + 1)) for at in range(10)]
        one, other = ZERO, num(1)
        for part in unlike:
            one, other = made("strange", one, part), made("strange", other, part)
        self.assertGreater(signs_of(one), 100)
        self.greater(other, one)
        self.assertLess(time.monotonic() - start, 20)

    def test_deep_ones(self):
        self.greater(self.tower(num(1), 38), self.tower(ZERO, 38))
        self.greater(num(59), num(58))
        one, other = A, B
        for _ in range(58):
            one, other = made("next", one), made("next", other)
        self.greater(other, one)


if __name__ == "__main__":
    unittest.main()
