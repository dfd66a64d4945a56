import copy
import itertools
import unittest

from goalsmith.errors import NoData, TooFar
from goalsmith.sayingtexts import read_saying
from goalsmith.termtexts import read_ground, read_term
from goalsmith.truths import true_at, true_in
from tests.support import ZERO, ground, listed, made, name, num, refused, wide

GROUND = ground()
NO = ("no",)


def said(text, one=GROUND):
    return read_saying(one, text)


class TestTrueAt(unittest.TestCase):
    def at(self, text, filling, due):
        self.assertIs(true_at(GROUND, said(text), filling), due)

    def test_same(self):
        self.at("zero = zero", {}, True)
        self.at("add(one, one) = twice(one)", {}, True)
        self.at("one = zero", {}, False)
        self.at("no", {}, False)

    def test_names(self):
        x, y = ("x", "num"), ("y", "num")
        self.at("add(x:num, y:num) = next(y:num)", {x: num(1), y: num(5)}, True)
        self.at("add(x:num, y:num) = next(y:num)", {x: num(2), y: num(5)}, False)
        self.at("x:num = len(x:list)", {x: num(2), ("x", "list"): listed(ZERO, ZERO)}, True)
        self.at("x:num = len(x:list)", {x: num(1), ("x", "list"): listed(ZERO, ZERO)}, False)

    def test_more_names_than_are_free(self):
        more = {("x", "num"): num(1), ("y", "list"): listed(), ("x", "tree"): wide(4)}
        self.at("x:num = one", more, True)
        self.at("zero = zero", more, True)

    def test_each_word(self):
        texts = {True: "zero = zero", False: "zero = one"}
        for one, other in itertools.product((True, False), repeat=2):
            a, b = texts[one], texts[other]
            self.at(f"({a} and {b})", {}, one and other)
            self.at(f"({a} or {b})", {}, one or other)
            self.at(f"({a} so {b})", {}, (not one) or other)
            self.at(f"not {a}", {}, not one)
            self.at(f"(({a} so no) or (not {b} and {a}))", {}, (not one) or (not other and one))

    def test_each_term_has_a_thousand(self):
        loops = read_ground(
            "kind num: zero; next(num)\n"
            "work first(num, num) num = xa:num\n"
            "work run(num) num at 0: zero; run(ya:num)\n"
            "work spin(num, num) num at 0: zero; first(spin(ya:num, xb:num), run(xb:num))\n"
        )
        thousand = made("spin", num(27), num(34))
        same = ("same", thousand, thousand)
        self.assertIs(true_at(loops, same, {}), True)
        self.assertIs(true_at(loops, ("and", same, ("so", same, same)), {}), True)
        more = made("first", thousand, ZERO)
        refused(self, TooFar, true_at, loops, ("same", ZERO, more), {})
        refused(self, TooFar, true_at, loops, ("same", more, ZERO), {})
        x = ("x", "num")
        self.assertIs(true_at(loops, ("same", made("spin", num(27), name("x")), ZERO), {x: num(34)}), True)
        refused(self, TooFar, true_at, loops, ("same", made("spin", num(27), name("x")), ZERO), {x: num(35)})

    def test_great_data(self):
        x = ("x", "tree")
        self.at("x:tree = x:tree", {x: wide(200)}, True)
        refused(self, TooFar, true_at, GROUND, said("x:tree = leaf"), {x: wide(201)})
        refused(self, TooFar, true_at, GROUND, said("tip(x:tree) = leaf"), {x: wide(200)})
        refused(self, TooFar, true_at, GROUND, said("leaf = fork(x:tree, x:tree)"), {x: wide(200)})
        # A name that stands nowhere is not reckoned.
        self.at("leaf = leaf", {x: wide(201)}, True)

    def test_all_terms_are_reckoned(self):
        far = "zero = twice(x:num)"
        filling = {("x", "num"): num(30)}
        for text in (f"(no and {far})", f"(zero = zero or {far})", f"(no so {far})", f"not ({far} and no)", f"({far} or zero = zero)"):
            refused(self, TooFar, true_at, GROUND, said(text), filling)
        none = "zero = age(t:thing)"
        for text in (f"(no and {none})", f"(zero = zero or {none})", f"(no so {none})", f"({none} or zero = zero)"):
            refused(self, NoData, true_at, GROUND, said(text), {})

    def test_the_first_refusal_goes(self):
        filling = {("x", "num"): num(30)}
        refused(self, TooFar, true_at, GROUND, said("twice(x:num) = age(t:thing)"), filling)
        refused(self, NoData, true_at, GROUND, said("age(t:thing) = twice(x:num)"), filling)
        refused(self, TooFar, true_at, GROUND, said("(twice(x:num) = zero and home = home)"), filling)
        refused(self, NoData, true_at, GROUND, said("(home = home and twice(x:num) = zero)"), filling)
        refused(self, TooFar, true_at, GROUND, said("(zero = twice(x:num) so home = home)"), filling)
        refused(self, NoData, true_at, GROUND, said("((no or zero = age(t:thing)) or twice(x:num) = zero)"), filling)
        refused(self, NoData, true_at, GROUND, said("(not home = home and twice(x:num) = zero)"), filling)
        # Within one term NoData goes ahead.
        refused(self, NoData, true_at, GROUND, said("add(twice(x:num), age(t:thing)) = zero"), filling)

    def test_open_kinds_and_works(self):
        refused(self, NoData, true_at, GROUND, said("home = home"), {})
        refused(self, NoData, true_at, GROUND, said("t:thing = t:thing"), {})

    def test_handed_in_stays(self):
        filling = {("x", "num"): num(3), ("y", "list"): listed(ZERO)}
        before = copy.deepcopy(filling)
        saying = said("(x:num = len(y:list) or not no)")
        self.assertIs(true_at(GROUND, saying, filling), True)
        self.assertEqual(filling, before)
        self.assertEqual(saying, said("(x:num = len(y:list) or not no)"))

    def test_against_all_small_data(self):
        one = read_ground("kind num: zero; next(num)\nwork add(num, num) num at 0: xb:num; next(add(ya:num, xb:num))\n")
        comes = said("add(x:num, y:num) = add(y:num, x:num)", one)
        less = said("(add(x:num, y:num) = x:num so y:num = zero)", one)
        wrong = said("add(x:num, y:num) = next(x:num)", one)
        for a, b in itertools.product(range(6), repeat=2):
            filling = {("x", "num"): num(a), ("y", "num"): num(b)}
            self.assertIs(true_at(one, comes, filling), True)
            self.assertIs(true_at(one, less, filling), True)
            self.assertIs(true_at(one, wrong, filling), b == 1)


WORLDLY = read_ground(
    "kind man\nkind town\n"
    "work king man\n"
    "work home(man) town\n"
    "work heir(man, man) man\n"
    "work lord(town) man\n"
)


def world(men, towns, king=0, home=None, heir=None, lord=None):
    """A world where what is not told is the thing 0."""
    things = {"man": men, "town": towns}
    tables = {
        "king": {(): king},
        "home": {(man,): (home or {}).get(man, 0) for man in range(men)},
        "heir": {pair: (heir or {}).get(pair, 0) for pair in itertools.product(range(men), repeat=2)},
        "lord": {(town,): (lord or {}).get(town, 0) for town in range(towns)},
    }
    return things, tables


class TestTrueIn(unittest.TestCase):
    def true(self, text, one, filling, due):
        self.assertIs(true_in(WORLDLY, said(text, WORLDLY), one, filling), due, text)

    def test_same(self):
        one = world(3, 2, king=1, home={0: 0, 1: 1, 2: 1}, heir={(1, 2): 2}, lord={1: 2})
        self.true("king = king", one, {}, True)
        self.true("king = x:man", one, {("x", "man"): 1}, True)
        self.true("king = x:man", one, {("x", "man"): 0}, False)
        self.true("home(king) = home(x:man)", one, {("x", "man"): 2}, True)
        self.true("home(king) = home(x:man)", one, {("x", "man"): 0}, False)
        self.true("heir(king, x:man) = lord(t:town)", one, {("x", "man"): 2, ("t", "town"): 1}, True)
        self.true("heir(x:man, king) = lord(t:town)", one, {("x", "man"): 2, ("t", "town"): 1}, False)
        self.true("lord(home(lord(home(king)))) = x:man", one, {("x", "man"): 2}, True)

    def test_a_work_that_takes_nothing(self):
        for king in range(3):
            for man in range(3):
                self.true("king = x:man", world(3, 1, king=king), {("x", "man"): man}, king == man)

    def test_each_word(self):
        one = world(2, 1, king=1)
        texts = {True: "king = king", False: "king = x:man"}
        filling = {("x", "man"): 0}
        self.true("no", one, {}, False)
        for a, b in itertools.product((True, False), repeat=2):
            left, right = texts[a], texts[b]
            self.true(f"({left} and {right})", one, filling, a and b)
            self.true(f"({left} or {right})", one, filling, a or b)
            self.true(f"({left} so {right})", one, filling, (not a) or b)
            self.true(f"not {left}", one, filling, not a)

    def test_one_two_and_three_things(self):
        for men in (1, 2, 3):
            one = world(men, 1)
            self.true("all x:man. all y:man. x:man = y:man", one, {}, men == 1)
            self.true("some x:man. some y:man. not x:man = y:man", one, {}, men > 1)
            three = "(not x:man = y:man and (not y:man = z:man and not x:man = z:man))"
            self.true(f"some x:man. some y:man. some z:man. {three}", one, {}, men == 3)
            self.true("all x:man. no", one, {}, False)
            self.true("some x:man. not no", one, {}, True)
            self.true("all t:town. all s:town. t:town = s:town", one, {}, True)

    def test_all_and_some_within_one_another(self):
        one = world(3, 3, home={0: 0, 1: 1, 2: 1})
        self.true("all x:man. some t:town. home(x:man) = t:town", one, {}, True)
        self.true("some t:town. all x:man. home(x:man) = t:town", one, {}, False)
        self.true("all t:town. some x:man. home(x:man) = t:town", one, {}, False)
        self.true("some x:man. some y:man. (home(x:man) = home(y:man) and not x:man = y:man)", one, {}, True)
        circle = world(3, 1, heir={(a, b): (a + b) - (a + b) // 3 * 3 for a in range(3) for b in range(3)})
        self.true("all x:man. some y:man. all z:man. heir(heir(x:man, y:man), z:man) = z:man", circle, {}, True)
        self.true("some y:man. all x:man. all z:man. heir(heir(x:man, y:man), z:man) = z:man", circle, {}, False)
        self.true("some e:man. all x:man. heir(x:man, e:man) = x:man", circle, {}, True)

    def test_free_names_within(self):
        one = world(3, 2, home={0: 0, 1: 1, 2: 1})
        for man in range(3):
            alone = "all y:man. (home(y:man) = home(x:man) so y:man = x:man)"
            self.true(alone, one, {("x", "man"): man}, man == 0)

    def test_more_names_than_are_free(self):
        one = world(2, 2, king=1)
        self.true("king = x:man", one, {("x", "man"): 1, ("x", "town"): 0, ("y", "man"): 0}, True)
        self.true("all x:man. some y:man. x:man = y:man", one, {("x", "man"): 1, ("y", "man"): 0}, True)

    def test_names_of_unlike_kinds(self):
        one = world(2, 2, lord={0: 1, 1: 0})
        self.true("lord(x:town) = x:man", one, {("x", "town"): 0, ("x", "man"): 1}, True)
        self.true("lord(x:town) = x:man", one, {("x", "town"): 1, ("x", "man"): 1}, False)

    def test_worlds_with_less_than_the_ground(self):
        """Only what the saying speaks of need be in the world."""
        self.true("all x:man. x:man = x:man", ({"man": 2}, {}), {}, True)
        self.true("not no", ({}, {}), {}, True)
        self.assertIs(true_in(GROUND, said("some x:thing. love(x:thing, x:thing) = x:thing"), (
            {"thing": 2}, {"love": {(0, 0): 1, (0, 1): 0, (1, 0): 0, (1, 1): 1}}), {}), True)

    def test_against_trying_all(self):
        saying = said("(all x:man. home(x:man) = home(king) so some t:town. all x:man. home(x:man) = t:town)", WORLDLY)
        other = said("(some t:town. all x:man. home(x:man) = t:town so all x:man. home(x:man) = home(king))", WORLDLY)
        for homes in itertools.product(range(3), repeat=3):
            one = world(3, 3, king=2, home=dict(enumerate(homes)))
            self.assertIs(true_in(WORLDLY, saying, one, {}), True)
            self.assertIs(true_in(WORLDLY, other, one, {}), True)

    def test_handed_in_stays(self):
        one = world(3, 2, king=1, home={0: 1})
        filling = {("x", "man"): 2}
        before = copy.deepcopy((one, filling))
        self.true("all y:man. (home(y:man) = home(x:man) or not no)", one, filling, True)
        self.assertEqual((one, filling), before)


class TestAlike(unittest.TestCase):
    def test_asked_again(self):
        saying = said("add(x:num, one) = next(x:num)")
        filling = {("x", "num"): read_term(GROUND, "next(zero)")}
        for _ in range(3):
            self.assertIs(true_at(GROUND, saying, filling), True)
            refused(self, NoData, true_at, GROUND, saying, {})


if __name__ == "__main__":
    unittest.main()
