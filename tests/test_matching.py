import copy
import itertools
import unittest

from goalsmith.matching import filled, fitting
from tests.papersupport import A, B, C, GROUND, bound
from tests.support import ZERO, listed, made, name, num

AL, BL = name("a", "list"), name("b", "list")


class MatchingTest(unittest.TestCase):
    def fits(self, kinds, left, term, *parts):
        """The left fits with just these parts, and these make it the term."""
        rule = (kinds, left, left)
        was = copy.deepcopy((rule, term))
        self.assertEqual(fitting(GROUND, rule, term), parts)
        self.assertEqual(filled(left, parts), term)
        self.assertEqual((rule, term), was)

    def fits_not(self, kinds, left, *terms):
        for term in terms:
            self.assertIsNone(fitting(GROUND, (kinds, left, left), term), (left, term))


class TestFitting(MatchingTest):
    def test_one(self):
        left = made("next", bound(0))
        self.fits(("num",), left, num(1), ZERO)
        self.fits(("num",), left, num(3), num(2))
        self.fits(("num",), left, made("next", A), A)
        self.fits(("num",), left, made("next", made("add", A, B)), made("add", A, B))
        self.fits_not(("num",), left, ZERO, A, made("add", A, B), made("one"), AL)

    def test_several(self):
        left = made("add", made("next", bound(0)), bound(1))
        self.fits(("num", "num"), left, made("add", num(2), A), num(1), A)
        self.fits(("num", "num"), left, made("add", num(1), num(1)), ZERO, num(1))
        self.fits_not(("num", "num"), left, made("add", A, num(2)), made("add", ZERO, A), num(2), made("first", num(1), A))
        left = made("add", bound(1), bound(0))
        self.fits(("num", "num"), left, made("add", A, B), B, A)

    def test_of_several_kinds(self):
        left = made("cons", bound(1), bound(0))
        self.fits(("list", "num"), left, listed(A, B), listed(B), A)
        self.fits(("list", "num"), left, made("cons", ZERO, AL), AL, ZERO)
        self.fits_not(("list", "num"), left, made("nil"), AL)
        deep = made("len", made("cons", bound(0), made("cons", bound(1), bound(2))))
        self.fits(("num", "num", "list"), deep, made("len", listed(A, B, C)), A, B, listed(C))
        self.fits_not(("num", "num", "list"), deep, made("len", listed(A)), made("len", AL), made("len", made("nil")))

    def test_twice(self):
        left = made("add", bound(0), bound(0))
        for term in (A, ZERO, made("twice", B), num(3)):
            self.fits(("num",), left, made("add", term, term), term)
        for one, other in itertools.permutations([A, B, ZERO, num(1), made("one")], 2):
            self.fits_not(("num",), left, made("add", one, other))
        left = made("add", made("next", bound(0)), made("add", bound(1), bound(0)))
        self.fits(("num", "num"), left, made("add", num(2), made("add", B, num(1))), num(1), B)
        self.fits_not(("num", "num"), left, made("add", num(2), made("add", num(1), B)))

    def test_not_at_all(self):
        """A bound one that does not stand in the left: None."""
        left = made("next", bound(1))
        self.fits(("num", "num"), left, num(1), None, ZERO)
        self.fits(("list", "num", "thing"), left, num(1), None, ZERO, None)
        self.fits(("num",), made("one"), made("one"), None)
        self.fits((), made("one"), made("one"))
        self.fits(("list", "list"), made("len", made("nil")), made("len", made("nil")), None, None)

    def test_free_names(self):
        left = made("add", A, bound(0))
        self.fits(("num",), left, made("add", A, B), B)
        self.fits(("num",), left, made("add", A, A), A)
        self.fits_not(("num",), left, made("add", B, A), made("add", ZERO, A), made("add", made("next", A), A))
        left = made("cons", A, bound(0))
        self.fits(("list",), left, made("cons", A, AL), AL)
        self.fits_not(("list",), made("len", AL), made("len", BL), made("len", made("nil")))
        self.fits((), made("len", AL), made("len", AL))
        self.fits((), made("twice", made("add", A, num(2))), made("twice", made("add", A, num(2))))

    def test_names_called_like_makers_and_works(self):
        for f in ("zero", "one"):
            self.fits((), name(f), name(f))
            self.fits_not((), name(f), made(f))
            self.fits_not((), made(f), name(f))
        left = made("first", name("one"), bound(0))
        self.fits(("num",), left, made("first", name("one"), made("one")), made("one"))
        self.fits_not(("num",), left, made("first", made("one"), made("one")))
        self.fits_not(("num",), made("first", made("one"), bound(0)), made("first", name("one"), ZERO))
        self.fits_not(("num",), made("next", bound(0)), name("next"))

    def test_makers_and_works(self):
        self.fits((), num(3), num(3))
        self.fits_not((), num(3), num(2), num(4), A, made("next", made("next", A)))
        self.fits_not(("num",), made("twice", bound(0)), made("next", A), made("add", A, A))

    def test_of_their_kinds(self):
        self.fits_not(("list",), made("next", bound(0)), num(1))
        self.fits_not(("num", "num"), made("cons", bound(0), bound(1)), listed(A))

    def test_terms_alike_that_are_not_the_same_things(self):
        left = made("add", bound(0), bound(0))
        self.fits(("num",), left, made("add", num(7), made("next", num(6))), num(7))

    def test_asked_again(self):
        rule = (("num", "num"), made("add", bound(0), bound(1)), bound(0))
        told = fitting(GROUND, rule, made("add", A, B))
        fitting(GROUND, rule, made("add", B, ZERO))
        fitting(GROUND, rule, A)
        self.assertEqual(fitting(GROUND, rule, made("add", A, B)), told)
        self.assertEqual(told, (A, B))


class TestFilled(MatchingTest):
    def test_filled(self):
        self.assertEqual(filled(bound(0), (A,)), A)
        self.assertEqual(filled(bound(1), (A, num(2))), num(2))
        self.assertEqual(filled(A, ()), A)
        self.assertEqual(filled(ZERO, (A,)), ZERO)
        self.assertEqual(filled(made("add", bound(1), made("next", bound(0))), (A, B)), made("add", B, made("next", A)))
        self.assertEqual(filled(made("add", bound(0), bound(0)), (num(2),)), made("add", num(2), num(2)))
        self.assertEqual(filled(made("add", A, bound(1)), (None, B)), made("add", A, B))

    def test_what_is_put_is_not_filled_again(self):
        self.assertEqual(filled(made("add", bound(0), bound(1)), (bound(1), A)), made("add", bound(1), A))

    def test_rewritten(self):
        rule = (("num", "num"), made("add", made("next", bound(0)), bound(1)), made("next", made("add", bound(0), bound(1))))
        parts = fitting(GROUND, rule, made("add", num(2), A))
        self.assertEqual(filled(rule[2], parts), made("next", made("add", num(1), A)))


if __name__ == "__main__":
    unittest.main()
