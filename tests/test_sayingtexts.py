import itertools
import string
import unittest

from goalsmith.errors import NoText
from goalsmith.sayings import is_saying, shut
from goalsmith.sayingtexts import read_saying, show
from goalsmith.termtexts import read_ground
from tests.support import (
    THINGS,
    WORDS,
    ZERO,
    changed_texts,
    ground,
    is_name_text,
    made,
    name,
    num,
    plain_read,
    refused,
    split_outside,
    wide,
)

GROUND = ground()
NO = ("no",)
A, B = name("a"), name("b")


def bound(k):
    return ("bound", k)


def same(one, other):
    return ("same", one, other)


FORMS = [
    ("no", NO),
    ("not no", ("not", NO)),
    ("not not no", ("not", ("not", NO))),
    ("zero = a:num", same(ZERO, A)),
    ("not a:num = b:num", ("not", same(A, B))),
    ("(no and zero = zero)", ("and", NO, same(ZERO, ZERO))),
    ("(no or no)", ("or", NO, NO)),
    ("(no so not no)", ("so", NO, ("not", NO))),
    ("((no and no) or (no so no))", ("or", ("and", NO, NO), ("so", NO, NO))),
    ("not (no and no)", ("not", ("and", NO, NO))),
    ("all a:num. a:num = zero", ("all", "num", same(bound(0), ZERO))),
    ("some a:list. len(a:list) = zero", ("some", "list", same(made("len", bound(0)), ZERO))),
    ("all a:num. no", ("all", "num", NO)),
    ("all a:num. some b:num. a:num = next(b:num)", ("all", "num", ("some", "num", same(bound(1), made("next", bound(0)))))),
    ("(all a:num. a:num = zero and no)", ("and", ("all", "num", same(bound(0), ZERO)), NO)),
    ("all a:num. (a:num = zero and no)", ("all", "num", ("and", same(bound(0), ZERO), NO))),
    ("not all a:thing. not home = home", ("not", ("all", "thing", ("not", same(made("home"), made("home")))))),
    ("(all a:num. no so all a:list. no)", ("so", ("all", "num", NO), ("all", "list", NO))),
]


def plain_read_saying(text):
    """What a text written like a saying says, or None; another reader than the program's own."""
    if text == "no":
        return NO
    if text.startswith("not "):
        inner = plain_read_saying(text[4:])
        return inner and ("not", inner)
    word = text.partition(" ")[0]
    if word in ("all", "some"):
        head, dot, rest = text[len(word) + 1:].partition(". ")
        x, colon, kind = head.partition(":")
        inner = plain_read_saying(rest)
        if dot and colon and inner and is_name_text(x) and is_name_text(kind):
            return (word, kind, shut(inner, x, kind))
        return None
    if text.startswith("(") and text.endswith(")"):
        for word in ("and", "or", "so"):
            pieces = split_outside(text[1:-1], f" {word} ")
            for at in range(1, len(pieces)):
                one = plain_read_saying(f" {word} ".join(pieces[:at]))
                other = plain_read_saying(f" {word} ".join(pieces[at:]))
                if one and other:
                    return (word, one, other)
        return None
    terms = [plain_read(piece) for piece in text.split(" = ")]
    return same(*terms) if len(terms) == 2 and None not in terms else None


class TestShow(unittest.TestCase):
    def test_each_form(self):
        for text, saying in FORMS:
            self.assertEqual(show(saying), text)
            self.assertEqual(read_saying(GROUND, text), saying)

    def test_free_names_stand_in_the_way(self):
        self.assertEqual(show(("all", "num", same(bound(0), A))), "all b:num. b:num = a:num")
        # Of whatever kind, and wherever in the whole saying.
        self.assertEqual(show(("all", "num", same(made("len", name("a", "list")), bound(0)))), "all b:num. len(a:list) = b:num")
        saying = ("and", ("all", "num", same(bound(0), ZERO)), ("not", same(name("b", "tree"), name("a", "tree"))))
        self.assertEqual(show(saying), "(all c:num. c:num = zero and not b:tree = a:tree)")
        self.assertEqual(show(("all", "num", same(name("b"), name("b")))), "all a:num. b:num = b:num")

    def test_those_around_stand_in_the_way(self):
        inner = same(made("add", bound(0), bound(1)), bound(2))
        self.assertEqual(
            show(("all", "num", ("some", "num", ("all", "num", inner)))),
            "all a:num. some b:num. all c:num. add(c:num, b:num) = a:num",
        )
        self.assertEqual(show(("all", "num", ("some", "list", NO))), "all a:num. some b:list. no")
        # Those that do not stand around do not.
        saying = ("and", ("all", "num", ("some", "num", NO)), ("all", "num", same(bound(0), ZERO)))
        self.assertEqual(show(saying), "(all a:num. some b:num. no and all a:num. a:num = zero)")
        saying = ("all", "num", ("and", ("some", "num", NO), ("some", "list", NO)))
        self.assertEqual(show(saying), "all a:num. (some b:num. no and some b:list. no)")

    def test_free_and_around(self):
        saying = ("all", "num", ("some", "num", same(name("a"), made("add", name("c"), bound(1)))))
        self.assertEqual(show(saying), "all b:num. some d:num. a:num = add(c:num, b:num)")

    def test_more_than_twenty_six(self):
        saying = NO
        for _ in range(30):
            saying = ("all", "num", saying)
        letters = list(string.ascii_lowercase) + ["aa", "ab", "ac", "ad"]
        self.assertEqual(show(saying), "".join(f"all {x}:num. " for x in letters) + "no")

    def test_the_seven_words_stand_in_the_way(self):
        letters = string.ascii_lowercase
        two = [one + other for one, other in itertools.product(letters, letters)]
        for word, after in (("no", "np"), ("or", "os"), ("so", "sp")):
            ahead = list(letters) + two[:two.index(word)]
            self.assertEqual(show(self.with_free(ahead)), "all " + after + ":num. " + show(self.with_free(ahead)[2]))
        self.assertEqual(show(self.with_free(list(letters)))[:10], "all aa:num")
        self.assertEqual(show(self.with_free([x for x in letters if x != "k"]))[:9], "all k:num")

    def with_free(self, names):
        """An all around a saying with these free names, none of what is bound."""
        sayings = [same(name(x), name(y)) for x, y in zip(names, names[1:] + names[:1]) if x not in WORDS and y not in WORDS]
        while len(sayings) > 1:
            sayings = [("and", one, other) for one, other in zip(sayings[::2], sayings[1::2])] + sayings[len(sayings) & ~1:]
        return ("all", "num", sayings[0])

    def test_read_back(self):
        sayings = [same(A, bound(0)), same(made("len", name("a", "list")), bound(0)), ("not", same(bound(0), name("c")))]
        sayings += [("some", "num", same(made("add", bound(0), bound(1)), B)), ("all", "list", same(made("len", bound(0)), bound(1)))]
        for one, other in itertools.product(sayings, sayings):
            for word, bind in itertools.product(("and", "or", "so"), ("all", "some")):
                saying = (bind, "num", (word, one, other))
                self.assertTrue(is_saying(GROUND, saying))
                self.assertEqual(read_saying(GROUND, show(saying)), saying)


class TestRead(unittest.TestCase):
    def read(self, text, saying):
        self.assertEqual(read_saying(GROUND, text), saying)

    def bar(self, *texts):
        for text in texts:
            refused(self, NoText, read_saying, GROUND, text)

    def test_the_nearest_with_just_name_and_kind(self):
        self.read("all x:num. some x:num. x:num = zero", ("all", "num", ("some", "num", same(bound(0), ZERO))))
        self.read("all x:num. some x:list. x:num = len(x:list)", ("all", "num", ("some", "list", same(bound(1), made("len", bound(0))))))
        self.read("all x:num. some y:num. x:num = zero", ("all", "num", ("some", "num", same(bound(1), ZERO))))
        self.read("all x:list. x:num = zero", ("all", "list", same(name("x"), ZERO)))
        self.read("(all x:num. x:num = zero and x:num = zero)", ("and", ("all", "num", same(bound(0), ZERO)), same(name("x"), ZERO)))
        self.read(
            "all x:num. (some x:num. x:num = zero and x:num = zero)",
            ("all", "num", ("and", ("some", "num", same(bound(0), ZERO)), same(bound(0), ZERO))),
        )
        self.read(
            "all x:num. all y:num. all x:num. add(x:num, y:num) = z:num",
            ("all", "num", ("all", "num", ("all", "num", same(made("add", bound(0), bound(1)), name("z"))))),
        )

    def test_any_names_will_do(self):
        for x in ("z", "abcdefgh", "num", "zero", "add", "nor", "alls", "notx", "xa", "held"):
            self.read(f"all {x}:num. {x}:num = zero", ("all", "num", same(bound(0), ZERO)))
            self.read(f"not {x}:num = zero", ("not", same(name(x), ZERO)))
        self.read("all zero:num. zero = zero:num", ("all", "num", same(ZERO, bound(0))))

    def test_changed_signs(self):
        read = 0
        for text, _ in FORMS:
            for other in changed_texts(text):
                saying = plain_read_saying(other)
                if saying is not None and is_saying(GROUND, saying):
                    self.read(other, saying)
                    read += 1
                else:
                    self.bar(other)
        self.assertGreater(read, 100)

    def test_of_anything(self):
        for thing in THINGS:
            if thing != "no":
                self.bar(thing)
        self.bar(NO, ["no"], b"no", ("no", "no"), GROUND)

    def test_no_such_texts(self):
        self.bar("", " ", "no ", " no", "no\n", "no no", "No", "(no)", "()", "not", "not ", "notno", "not  no", "not(no)")
        self.bar("(no and no", "no and no", "(no and no))", "(no  and no)", "(no and  no)", "(no andno)", "(noand no)")
        self.bar("(no nor no)", "(no not no)", "(no = no)", "(no and no and no)", "( no and no)", "(no and no )")
        self.bar("zero", "a:num", "zero = ", " = zero", "zero=zero", "zero  = zero", "zero = zero = zero", "(zero = zero)")
        self.bar("all a:num no", "all a:num.no", "all a:num . no", "all a: num. no", "all a. no", "all :num. no", "all a:. no")
        self.bar("alla:num. no", "all  a:num. no", "(all a:num. no)", "all a:num.", "all a:num. ", "any a:num. no", "all a:num, no")

    def test_names_that_are_none(self):
        for word in WORDS + ("abcdefghi", "A", "x1", ""):
            self.bar(f"all {word}:num. no", f"some {word}:num. no", f"{word}:num = zero", f"{word} = zero", f"a:{word} = zero")
            self.bar(f"all a:{word}. no")

    def test_no_saying_of_the_ground(self):
        self.bar("zero = nil", "x:num = x:list", "what = what", "x:what = x:what", "all x:what. no", "some x:zero. no")
        self.bar("all x:list. x:list = zero", "next(nil) = zero", "next = zero", "add(zero) = zero")
        refused(self, NoText, read_saying, read_ground(""), "zero = zero")
        self.assertEqual(read_saying(read_ground(""), "not no"), ("not", NO))

    def test_great_in_depth(self):
        self.read("not " * 39 + "no", self.nots(39, NO))
        self.bar("not " * 40 + "no", "not " * 800 + "no", "not " * 999)
        self.read("not " * 38 + "zero = zero", self.nots(38, same(ZERO, ZERO)))
        self.bar("not " * 39 + "zero = zero")
        self.read(f"{self.next_text(38)} = zero", same(num(38), ZERO))
        self.bar(f"{self.next_text(39)} = zero", f"zero = {self.next_text(39)}", f"{self.next_text(500)} = zero")
        self.read("all x:num. " + f"{self.next_text(37)} = zero", ("all", "num", same(num(37), ZERO)))
        self.bar("all x:num. " + f"{self.next_text(38)} = zero")
        self.read("(no and " * 39 + "no" + ")" * 39, self.ands(39))
        self.bar("(no and " * 40 + "no" + ")" * 40, "(" * 3000)

    def nots(self, many, saying):
        for _ in range(many):
            saying = ("not", saying)
        return saying

    def ands(self, many):
        saying = NO
        for _ in range(many):
            saying = ("and", NO, saying)
        return saying

    def next_text(self, many):
        return "next(" * many + "zero" + ")" * many

    def test_great_in_signs(self):
        text = show(same(wide(199 - 50), wide(50)))
        self.read(text, same(wide(149), wide(50)))
        self.bar(show(same(wide(150), wide(50))))
        self.read(show(("not", same(wide(148), wide(50)))), ("not", same(wide(148), wide(50))))
        self.bar(show(("not", same(wide(149), wide(50)))))
        self.read(show(self.many_noes(199)), self.many_noes(199))
        self.read(show(("not", self.many_noes(199))), ("not", self.many_noes(199)))
        self.bar(show(self.many_noes(201)))

    def many_noes(self, signs):
        """A saying of no and and alone with so many signs."""
        if signs == 1:
            return NO
        half = (signs - 1) // 4 * 2 + 1
        return ("and", self.many_noes(half), self.many_noes(signs - 1 - half))

if __name__ == "__main__":
    unittest.main()
