"""What is held, with nothing lent, is true: many steps, taken by chance from a fixed seed, and looked at."""

import itertools
import random
import unittest

from goalsmith.errors import NoRule, TooFar
from goalsmith.grounds import Ground
from goalsmith.kernel import Kernel
from goalsmith.reader import read_paper
from goalsmith.sayings import free_in, opened, shut
from goalsmith.truths import true_at, true_in
from tests.papersupport import NO, bound, same
from tests.support import KINDS, WORKS, ZERO, made, name, num

LOVE = Ground([("thing", [])], [("love", ["thing", "thing"], "thing", None, []), ("me", [], "thing", None, [])])
NUMBERS = Ground(KINDS[2:3], [work for work in WORKS if work[0] in ("add", "twice", "one")])
BOTH_WORDS = ("and", "or", "so")


class Chance:
    """Held things made by rules taken by chance, of a ground, of terms and bodies of one kind."""

    def __init__(self, seed, ground, kind, terms, bodies):
        self.chance = random.Random(seed)
        self.ground, self.kind, self.terms, self.bodies = ground, kind, terms, bodies
        self.kernel = Kernel(ground)
        self.helds = []

    def term(self):
        return self.chance.choice(self.terms)

    def body(self):
        if self.helds and self.chance.random() < 0.3:
            held = self.chance.choice(self.helds).saying()
            return shut(held, self.chance.choice("ab"), self.kind)
        return self.chance.choice(self.bodies)

    def saying(self):
        at = self.chance.random()
        if at < 0.25 and self.helds:
            return self.chance.choice(self.helds).saying()
        if at < 0.35 and self.helds:
            return self.chance.choice(self.chance.choice(self.helds).given() or (NO,))
        if at < 0.45:
            return (self.chance.choice(["all", "some"]), self.kind, self.body())
        if at < 0.55:
            return ("not", opened(self.body(), self.term()))
        if at < 0.65:
            return (self.chance.choice(BOTH_WORDS), opened(self.body(), self.term()), opened(self.body(), self.term()))
        return opened(self.body(), self.term())

    def held(self, word=None):
        fitting = [held for held in self.helds if word in (None, held.saying()[0])]
        return self.chance.choice(fitting or self.helds)

    def given_or_not(self, held):
        return self.chance.choice(held.given() + (self.saying(),))

    def step(self):
        """One step by a rule taken by chance, with what fits it often."""
        kernel, one, other = self.kernel, self.held(), self.held()
        x = self.chance.choice("ab")
        same_one, no, some = self.held("same"), self.held("no"), self.held("some")
        choice, so = self.held("or"), self.held("so")
        bodies = [body for body in self.bodies if one.saying() in [opened(body, term) for term in self.terms]] or [self.body()]
        body = self.chance.choice(bodies)
        given_no = self.given_or_not(no)
        acts = [
            lambda: kernel.by_take(self.saying()),
            lambda: kernel.by_more(one, self.saying()),
            lambda: kernel.by_both(one, other),
            lambda: kernel.by_left(self.held("and")),
            lambda: kernel.by_right(self.held("and")),
            lambda: kernel.by_first(one, self.saying()),
            lambda: kernel.by_second(one, self.saying()),
            lambda: kernel.by_either(choice, one, self.chance.choice([h for h in self.helds if h.saying() == one.saying()])),
            lambda: kernel.by_so(one, self.given_or_not(one)),
            lambda: kernel.by_use(so, kernel.by_take(so.saying()[1])),
            lambda: kernel.by_clash(one, kernel.by_take(("not", one.saying()))),
            lambda: kernel.by_deny(no, given_no),
            lambda: kernel.by_any(no, self.saying()),
            lambda: kernel.by_back(no, given_no[1] if given_no[0] == "not" else given_no),
            lambda: kernel.by_each(one, x, self.kind),
            lambda: kernel.by_at(self.held("all"), self.term()),
            lambda: kernel.by_there(one, self.kind, body, self.term()),
            lambda: kernel.by_name(some, one, x),
            lambda: kernel.by_alike(self.term()),
            lambda: kernel.by_put(same_one, one, self.kind, shut(one.saying(), x, self.kind)),
            lambda: kernel.by_put(same_one, kernel.by_take(opened(body, same_one.saying()[1])), self.kind, body),
            lambda: kernel.by_equation(self.term()),
            lambda: kernel.by_unlike(same_one, self.saying()),
            lambda: kernel.by_part(same_one, 0),
            lambda: kernel.by_down(self.down_steps(body, x), self.kind, body, ((), (x,))),
        ]
        return self.chance.choice(acts)()

    def down_steps(self, body, x):
        """Where there is a step for each maker, these."""
        due = [opened(body, ZERO), opened(body, made("next", name(x)))]
        return [self.chance.choice([held for held in self.helds if held.saying() == saying] or [self.held()]) for saying in due]

    def run(self, many):
        self.helds.append(self.kernel.by_take(self.saying()))
        for _ in range(many):
            try:
                held = self.step()
            except (NoRule, IndexError):
                continue
            if len(held.given()) <= 4 and len(repr(held.saying())) < 600:
                self.helds.append(held)
        return self.helds


def worlds():
    for many in (1, 2):
        things = range(many)
        pairs = list(itertools.product(things, repeat=2))
        for table in itertools.product(things, repeat=len(pairs)):
            for me in things:
                yield ({"thing": many}, {"love": dict(zip(pairs, table)), "me": {(): me}})


class TestSoundness(unittest.TestCase):
    def test_in_small_worlds(self):
        a, b, me = name("a", "thing"), name("b", "thing"), made("me")
        terms = [a, b, me, made("love", a, me), made("love", b, b)]
        x = bound(0)
        bodies = [NO, same(x, a), same(x, b), same(made("love", x, a), me), ("not", same(x, me)), same(made("love", x, x), x),
                  ("some", "thing", same(made("love", x, bound(1)), b)), ("all", "thing", same(made("love", x, bound(1)), bound(1)))]
        looked_at = 0
        for seed in range(3):
            helds = Chance(seed, LOVE, "thing", terms, [same(a, b)] + bodies).run(700)
            for held in helds:
                looked_at += self.true_in_all(held.given(), held.saying())
            for held in helds[::10]:
                self.assertEqual(read_paper(LOVE, held.lent(), held.paper()), ("held", held.given(), held.saying()))
                self.assertEqual(held.lent(), [])
        self.assertGreater(looked_at, 300)

    def true_in_all(self, given, saying):
        names = free_in(list(given) + [saying])
        told = 0
        for world in worlds():
            for things in itertools.product(range(world[0]["thing"]), repeat=len(names)):
                filling = dict(zip(names, things))
                if all(true_in(LOVE, one, world, filling) for one in given):
                    self.assertTrue(true_in(LOVE, saying, world, filling), (given, saying, world, filling))
                    told = 1
        return told

    def test_of_data(self):
        a, b = name("a"), name("b")
        terms = [a, b, ZERO, num(1), made("next", a), made("add", ZERO, b), made("add", made("next", a), ZERO), made("twice", a)]
        x = bound(0)
        bodies = [same(x, a), same(made("add", x, ZERO), x), same(made("next", x), made("next", b)), same(x, ZERO),
                  same(made("next", x), made("next", made("add", a, ZERO))), ("not", same(made("next", x), x)), same(x, x),
                  same(made("add", ZERO, x), x)]
        looked_at = 0
        for seed in range(3):
            helds = Chance(seed, NUMBERS, "num", terms, bodies).run(700)
            for held in helds:
                text = repr((held.given(), held.saying()))
                if "'all'" not in text and "'some'" not in text:
                    looked_at += self.true_of_all(held.given(), held.saying())
        self.assertGreater(looked_at, 300)

    def true_of_all(self, given, saying):
        names = free_in(list(given) + [saying])
        told = 0
        for data in itertools.product([num(0), num(1), num(3)], repeat=len(names)):
            filling = dict(zip(names, data))
            try:
                if all([true_at(NUMBERS, one, filling) for one in given]):
                    self.assertTrue(true_at(NUMBERS, saying, filling), (given, saying, filling))
                    told = 1
            except TooFar:
                continue
        return told


if __name__ == "__main__":
    unittest.main()
