import random
import unittest

from goalsmith.sayings import free_in, is_body, is_opened_to, is_saying, opened, put_in, shut
from tests.support import THINGS, XA, ZERO, Alike, deep_tuple, doubled, ground, made, name, num

GROUND = ground()
NO = ("no",)
A, B = name("a"), name("b")


def bound(k):
    return ("bound", k)


def same(one, other):
    return ("same", one, other)


ALL_ZERO = ("all", "num", same(bound(0), ZERO))
PAIRS = ("all", "num", ("some", "list", same(made("len", bound(0)), bound(1))))


class TestIsSaying(unittest.TestCase):
    def let(self, *things):
        for thing in things:
            self.assertIs(is_saying(GROUND, thing), True, thing)

    def bar(self, *things):
        for thing in things:
            self.assertIs(is_saying(GROUND, thing), False, thing)

    def test_each_word(self):
        self.let(NO, same(ZERO, A), same(name("t", "thing"), name("u", "thing")), ("not", NO), ("not", same(A, A)))
        for word in ("and", "or", "so"):
            self.let((word, NO, same(A, B)), (word, (word, NO, NO), ("not", NO)))
        for kind in ("thing", "spot", "num", "list", "tree"):
            self.let(("all", kind, NO), ("some", kind, same(bound(0), name("x", kind))))
        self.let(ALL_ZERO, PAIRS, ("and", ALL_ZERO, ("not", PAIRS)))

    def test_of_anything(self):
        self.bar(*[thing for thing in THINGS])
        self.bar(ZERO, A, bound(0), ["no"], ["same", ZERO, ZERO], [NO], "no", "not no")

    def test_numbers_of_parts(self):
        self.bar(("no", NO), ("no", ()), ("not",), ("not", NO, NO), ("same", ZERO), ("same", ZERO, ZERO, ZERO))
        for word in ("and", "or", "so"):
            self.bar((word,), (word, NO), (word, NO, NO, NO), (word, (NO, NO)))
        for word in ("all", "some"):
            self.bar((word,), (word, "num"), (word, NO), (word, "num", NO, NO), (word, "num", "num", NO))

    def test_parts_of_another_sort(self):
        self.bar(same(NO, NO), same(ZERO, NO), same(ZERO, "zero"), same(ZERO, list(ZERO)), ("not", ZERO), ("not", "no"))
        self.bar(("not", ["no"]), ("and", NO, ZERO), ("or", A, NO), ("so", NO, None), ("not", True))
        self.bar(("all", "num", ZERO), ("some", "num", bound(0)), ("all", "num", ["no"]), ("all", NO, NO))
        for thing in THINGS:
            self.bar(("not", thing), ("and", NO, thing), ("or", thing, NO), ("so", NO, thing))
            self.bar(("all", "num", thing), same(ZERO, thing), same(thing, ZERO))
            if thing != "num":
                self.bar(("all", thing, NO), ("some", thing, NO))

    def test_two_terms_of_one_kind(self):
        self.bar(same(ZERO, made("nil")), same(name("x"), name("x", "list")), same(made("home"), name("t", "thing")))
        self.bar(("all", "num", same(bound(0), made("nil"))), ("some", "list", same(bound(0), ZERO)))
        self.bar(("all", "num", ("all", "list", same(bound(0), bound(1)))))
        self.let(("all", "list", ("all", "list", same(bound(0), bound(1)))))

    def test_kinds_that_are_none(self):
        for kind in ("zero", "add", "what", "", "no", None, True, 0, ["num"], ("num",)):
            self.bar(("all", kind, NO), ("some", kind, NO), same(name("x", kind), name("x", kind)))

    def test_bound_beyond_what_binds(self):
        self.bar(same(bound(0), bound(0)), ("not", same(bound(0), ZERO)))
        self.bar(("all", "num", same(bound(1), ZERO)), ("all", "num", ("some", "num", same(bound(2), ZERO))))
        self.let(("all", "num", ("some", "num", same(bound(1), made("add", bound(0), bound(1))))))
        # What binds to the left does not bind here.
        self.bar(("and", ALL_ZERO, same(bound(0), ZERO)))
        for k in (-1, True, False, None, "0", 0.0, (0,), [0], 10 ** 40):
            self.bar(("all", "num", same(bound(k), ZERO)), ("all", "num", ("all", "num", same(bound(k), ZERO))))
        for word in ("made", "name", "bind", "", None, 0):
            self.bar(("all", "num", same((word, 0), ZERO)))
        self.bar(("all", "num", same(("bound",), ZERO)), ("all", "num", same(("bound", 0, "num"), ZERO)))

    def test_bound_within_terms(self):
        self.let(("all", "num", same(made("next", made("add", bound(0), A)), bound(0))))
        self.bar(("all", "list", same(made("next", bound(0)), A)))

    def test_other_words(self):
        self.bar(("nor", NO, NO), ("ALL", "num", NO), ("", NO), (None,), (True,), (("no",),), (b"no",), (["no"],))

    def test_deep(self):
        thing = NO
        for _ in range(100):
            thing = ("not", thing)
        self.let(thing)
        thing = deep_tuple(60)
        for _ in range(58):
            thing = ("and", NO, thing)
        self.bar(thing)


class TestIsBody(unittest.TestCase):
    def test_ordinary(self):
        for kind in ("thing", "num", "list"):
            self.assertIs(is_body(GROUND, kind, NO), True)
            self.assertIs(is_body(GROUND, kind, same(bound(0), bound(0))), True)
            self.assertIs(is_body(GROUND, kind, ALL_ZERO), True)
            self.assertIs(is_body(GROUND, kind, same(bound(0), name("x", kind))), True)
        self.assertIs(is_body(GROUND, "num", ("all", "list", same(made("len", bound(0)), bound(1)))), True)

    def test_none(self):
        self.assertIs(is_body(GROUND, "num", same(bound(0), made("nil"))), False)
        self.assertIs(is_body(GROUND, "num", same(bound(1), ZERO)), False)
        self.assertIs(is_body(GROUND, "list", ("all", "list", same(made("len", bound(0)), bound(1)))), False)
        self.assertIs(is_body(GROUND, "num", ("all", "num", same(bound(2), ZERO))), False)
        self.assertIs(is_body(GROUND, "num", bound(0)), False)
        self.assertIs(is_body(GROUND, "num", ZERO), False)

    def test_of_anything(self):
        for thing in THINGS:
            self.assertIs(is_body(GROUND, "num", thing), False)
            self.assertIs(is_body(GROUND, thing, NO), thing == "num")
            self.assertIs(is_body(GROUND, thing, thing), False)
        for kind in ("zero", "add", "what", "home"):
            self.assertIs(is_body(GROUND, kind, NO), False)


class TestOpened(unittest.TestCase):
    def test_ordinary(self):
        self.assertEqual(opened(same(bound(0), A), num(2)), same(num(2), A))
        self.assertEqual(opened(same(made("add", bound(0), made("next", bound(0))), A), B), same(made("add", B, made("next", B)), A))
        self.assertEqual(opened(NO, ZERO), NO)
        self.assertEqual(opened(same(A, B), ZERO), same(A, B))
        body = ("so", ("not", same(bound(0), A)), ("or", NO, ("and", same(A, bound(0)), NO)))
        self.assertEqual(opened(body, ZERO), ("so", ("not", same(ZERO, A)), ("or", NO, ("and", same(A, ZERO), NO))))

    def test_within_all_and_some(self):
        for word in ("all", "some"):
            body = (word, "list", same(made("len", bound(0)), bound(1)))
            self.assertEqual(opened(body, A), (word, "list", same(made("len", bound(0)), A)))
        body = ("and", same(bound(0), A), ("all", "num", ("and", same(bound(0), bound(1)), ("some", "num", same(
            made("add", bound(0), bound(1)), bound(2))))))
        due = ("and", same(B, A), ("all", "num", ("and", same(bound(0), B), ("some", "num", same(
            made("add", bound(0), bound(1)), B)))))
        self.assertEqual(opened(body, B), due)

    def test_a_saying_is_given(self):
        for body in (PAIRS[2], ALL_ZERO[2]):
            self.assertTrue(is_saying(GROUND, opened(body, num(1))))


class TestIsOpenedTo(unittest.TestCase):
    BODIES = [
        NO,
        same(bound(0), A),
        same(made("add", bound(0), made("next", A)), made("len", name("a", "list"))),
        ("so", ("not", same(bound(0), A)), ("or", NO, ("and", same(A, bound(0)), NO))),
        ("all", "list", same(made("len", bound(0)), bound(1))),
        ("some", "num", ("all", "num", ("and", same(made("add", bound(0), bound(2)), bound(1)), same(bound(2), A)))),
    ]
    TERMS = [A, ZERO, made("next", A), made("add", A, num(2))]

    def test_bodies(self):
        for body in self.BODIES:
            for term in self.TERMS:
                self.assertTrue(is_opened_to(body, term, opened(body, term)))
                for other in self.BODIES:
                    for saying in (opened(other, A), opened(other, ZERO), ("not", opened(body, term))):
                        self.assertIs(is_opened_to(body, term, saying), opened(body, term) == saying)

    def test_what_is_meant_stands_by_its_number(self):
        body = ("all", "num", same(bound(1), bound(0)))
        self.assertTrue(is_opened_to(body, A, ("all", "num", same(A, bound(0)))))
        for number in (True, False, 1.0, -1, 2, "1", None, Alike()):
            self.assertFalse(is_opened_to(("all", "num", same(bound(number), bound(0))), A, ("all", "num", same(A, bound(0)))))
            if number is not False:
                self.assertFalse(is_opened_to(("all", "num", same(bound(1), bound(number))), A, ("all", "num", same(A, bound(0)))))
            self.assertFalse(is_opened_to(same(bound(number), A), A, same(A, A)))
        self.assertFalse(is_opened_to(("all", "num", same(bound(1), bound(False))), A, ("all", "num", same(A, bound(0)))))
        self.assertFalse(is_opened_to(same(("bound",), A), A, same(A, A)))
        self.assertFalse(is_opened_to(same(("bound", 0, 0), A), A, same(A, A)))

    def test_no_bodies(self):
        for saying in (NO, same(A, ZERO), ("all", "num", same(bound(0), A)), ("and", NO, same(A, made("add", A, ZERO)))):
            for thing in THINGS + [Alike(), list(saying), doubled(100), saying + saying, saying[:-1]]:
                self.assertFalse(is_opened_to(thing, A, saying))
                for at in range(len(saying)):
                    self.assertFalse(is_opened_to(saying[:at] + (thing,) + saying[at + 1:], A, saying) and thing != saying[at])

    def test_changed_by_chance(self):
        """Whatever a thing is: it is a body that the term opens to the saying, or not."""
        chance = random.Random(131)
        told = {True: 0, False: 0}
        things = THINGS + [Alike(), NO, A, ZERO, bound(0), bound(1), bound(True), "all", "some", "num", "list", "next", ("next",), (A,), (ZERO, A)]
        for _ in range(4000):
            body, term = chance.choice(self.BODIES), chance.choice(self.TERMS)
            saying = opened(body, term)
            for _ in range(chance.randrange(3)):
                body = self.changed(chance, body, things)
            due = is_body(GROUND, "num", body) and opened(body, term) == saying
            self.assertIs(is_opened_to(body, term, saying), due, (body, term, saying))
            told[due] += 1
        self.assertGreater(min(told.values()), 800)

    def changed(self, chance, thing, things):
        """A thing with something else in some place."""
        if not isinstance(thing, tuple) or thing == () or chance.random() < 0.2:
            return chance.choice(things)
        at = chance.randrange(len(thing))
        return thing[:at] + (self.changed(chance, thing[at], things),) + thing[at + 1:]


class TestShut(unittest.TestCase):
    def test_ordinary(self):
        self.assertEqual(shut(same(A, B), "a", "num"), same(bound(0), B))
        self.assertEqual(shut(same(made("add", A, made("next", A)), B), "a", "num"), same(made("add", bound(0), made("next", bound(0))), B))
        self.assertEqual(shut(same(A, B), "c", "num"), same(A, B))
        self.assertEqual(shut(NO, "a", "num"), NO)
        self.assertEqual(shut(("not", ("or", same(A, A), NO)), "a", "num"), ("not", ("or", same(bound(0), bound(0)), NO)))

    def test_just_that_kind(self):
        saying = same(made("len", name("a", "list")), A)
        self.assertEqual(shut(saying, "a", "num"), same(made("len", name("a", "list")), bound(0)))
        self.assertEqual(shut(saying, "a", "list"), same(made("len", bound(0)), A))
        self.assertEqual(shut(saying, "a", "thing"), saying)

    def test_within_all_and_some(self):
        saying = ("and", same(A, B), ("all", "num", ("and", same(bound(0), A), ("some", "num", same(bound(1), A)))))
        due = ("and", same(bound(0), B), ("all", "num", ("and", same(bound(0), bound(1)), ("some", "num", same(bound(1), bound(2))))))
        self.assertEqual(shut(saying, "a", "num"), due)
        self.assertTrue(is_body(GROUND, "num", due))

    def test_there_and_back(self):
        for saying in (same(A, made("add", A, B)), ("all", "num", same(made("add", bound(0), A), B)), PAIRS, NO):
            self.assertEqual(opened(shut(saying, "a", "num"), A), saying)


class TestPutIn(unittest.TestCase):
    def test_ordinary(self):
        self.assertEqual(put_in(same(A, B), "a", "num", num(1)), same(num(1), B))
        self.assertEqual(put_in(same(A, made("add", A, B)), "a", "num", B), same(B, made("add", B, B)))
        self.assertEqual(put_in(same(A, B), "c", "num", ZERO), same(A, B))
        self.assertEqual(put_in(NO, "a", "num", ZERO), NO)

    def test_the_name_itself_in_the_term(self):
        self.assertEqual(put_in(same(A, B), "a", "num", made("next", A)), same(made("next", A), B))

    def test_just_that_kind(self):
        saying = same(made("len", name("a", "list")), A)
        self.assertEqual(put_in(saying, "a", "num", ZERO), same(made("len", name("a", "list")), ZERO))
        self.assertEqual(put_in(saying, "a", "list", made("nil")), same(made("len", made("nil")), A))

    def test_within_all_and_some(self):
        saying = ("some", "num", ("so", same(bound(0), A), ("all", "list", same(made("len", bound(0)), made("add", bound(1), A)))))
        due = ("some", "num", ("so", same(bound(0), B), ("all", "list", same(made("len", bound(0)), made("add", bound(1), B)))))
        self.assertEqual(put_in(saying, "a", "num", B), due)


class TestFreeIn(unittest.TestCase):
    def test_ordinary(self):
        self.assertEqual(free_in([]), [])
        self.assertEqual(free_in([NO]), [])
        self.assertEqual(free_in([same(B, A)]), [("a", "num"), ("b", "num")])
        self.assertEqual(free_in([same(A, made("add", A, A)), ("not", same(A, ZERO))]), [("a", "num")])

    def test_sorted_by_name_then_kind(self):
        sayings = [same(name("b", "list"), name("b", "list")), same(B, name("aa")), same(name("a", "tree"), name("a", "tree"))]
        self.assertEqual(free_in(sayings), [("a", "tree"), ("aa", "num"), ("b", "list"), ("b", "num")])

    def test_within_all_and_some(self):
        saying = ("all", "num", ("and", same(bound(0), A), ("some", "list", same(made("len", bound(0)), made("add", B, bound(1))))))
        self.assertEqual(free_in([saying]), [("a", "num"), ("b", "num")])
        self.assertEqual(free_in([PAIRS, ALL_ZERO]), [])
        self.assertEqual(free_in([PAIRS, same(XA, XA), ALL_ZERO]), [("xa", "num")])

    def test_a_told_list_is_the_askers(self):
        sayings = [same(A, B)]
        free_in(sayings).clear()
        self.assertEqual(free_in(sayings), [("a", "num"), ("b", "num")])
        self.assertEqual(sayings, [same(A, B)])


if __name__ == "__main__":
    unittest.main()
