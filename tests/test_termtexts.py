import unittest

from goalsmith.errors import NoGround, NoText
from goalsmith.grounds import Ground
from goalsmith.terms import is_term
from goalsmith.termtexts import read_ground, read_term, show_ground, show_term
from tests.support import (
    GROUND_TEXT,
    KINDS,
    THINGS,
    WORKS,
    XA,
    ZERO,
    changed_texts,
    ground,
    listed,
    made,
    name,
    num,
    plain_read,
    plain_read_ground,
    refused,
    wide,
)

GROUND = ground()

TEXTS = [
    ("xa:num", XA),
    ("zero", ZERO),
    ("zero:list", name("zero", "list")),
    ("kind:tree", name("kind", "tree")),
    ("next(zero)", num(1)),
    ("home", made("home")),
    ("add(x:num, next(zero))", made("add", name("x"), num(1))),
    ("cons(next(zero), cons(zero, nil))", listed(num(1), num(0))),
    ("pick(a:thing, zero, b:thing)", made("pick", name("a", "thing"), ZERO, name("b", "thing"))),
    ("len(cons(n:num, l:list))", made("len", made("cons", name("n"), name("l", "list")))),
]


class TestTerms(unittest.TestCase):
    def test_shown_and_read(self):
        for text, term in TEXTS:
            self.assertEqual(show_term(term), text)
            self.assertEqual(read_term(GROUND, text), term)

    def test_changed_signs(self):
        read = 0
        for text, _ in TEXTS:
            for other in changed_texts(text):
                term = plain_read(other)
                if term is not None and is_term(GROUND, term):
                    self.assertEqual(read_term(GROUND, other), term)
                    self.assertEqual(show_term(term), other)
                    read += 1
                else:
                    refused(self, NoText, read_term, GROUND, other)
        self.assertGreater(read, 40)

    def test_of_anything(self):
        for thing in THINGS:
            if thing == "zero":
                self.assertEqual(read_term(GROUND, thing), ZERO)
            else:
                refused(self, NoText, read_term, GROUND, thing)
        refused(self, NoText, read_term, GROUND, ["zero"])
        refused(self, NoText, read_term, GROUND, ZERO)
        refused(self, NoText, read_term, GROUND, b"zero")

    def test_no_term_of_the_ground(self):
        for text in ("what", "num", "x:what", "x:zero", "next(nil)", "next", "next(zero, zero)", "zero(zero)", "x"):
            refused(self, NoText, read_term, GROUND, text)
        for word in ("no", "not", "and", "or", "so", "all", "some", "abcdefghi"):
            refused(self, NoText, read_term, GROUND, word + ":num")
            refused(self, NoText, read_term, GROUND, "x:" + word)
            refused(self, NoText, read_term, GROUND, word)
        self.assertEqual(read_term(GROUND, "abcdefgh:num"), name("abcdefgh"))

    def test_blanks_and_brackets(self):
        wrong = " zero|zero |zero\n|next (zero)|next( zero)|next(zero )|next(zero,)|add(zero,zero)|add(zero,  zero)"
        for text in (wrong + "|zero()|(zero)|next(zero|next(zero))|x: num|x :num|x:|:num|x:num:num|,|)|(").split("|"):
            refused(self, NoText, read_term, GROUND, text)
        refused(self, NoText, read_term, GROUND, "")

    def test_great_ones(self):
        self.assertEqual(read_term(GROUND, show_term(wide(200))), wide(200))
        refused(self, NoText, read_term, GROUND, show_term(wide(201)))
        self.assertEqual(read_term(GROUND, show_term(num(39))), num(39))
        refused(self, NoText, read_term, GROUND, show_term(num(40)))
        for many in (38, 39):
            self.assertEqual(read_term(GROUND, show_term(listed(*[ZERO] * many))), listed(*[ZERO] * many))
        refused(self, NoText, read_term, GROUND, show_term(listed(*[ZERO] * 40)))
        refused(self, NoText, read_term, GROUND, "next(" * 600 + "zero" + ")" * 600)
        refused(self, NoText, read_term, GROUND, "next(" * 790)

    def test_great_ones_are_shown(self):
        self.assertEqual(show_term(num(50)), "next(" * 50 + "zero" + ")" * 50)


class TestGrounds(unittest.TestCase):
    def test_shown_and_read(self):
        self.assertEqual(show_ground(GROUND), GROUND_TEXT)
        read = read_ground(GROUND_TEXT)
        self.assertEqual(read.kinds(), KINDS)
        self.assertEqual(read.works(), WORKS)

    def test_without_rows(self):
        self.assertEqual(show_ground(Ground([], [])), "")
        self.assertEqual(read_ground("").kinds(), [])
        self.assertEqual(read_ground("").works(), [])

    def test_each_form(self):
        rows = "kind num: zero; next(num)\n"
        work = read_ground(rows + "work f num\n").works()[0]
        self.assertEqual(work, ("f", [], "num", None, []))
        work = read_ground(rows + "work f(num, num) num\n").works()[0]
        self.assertEqual(work, ("f", ["num", "num"], "num", None, []))
        work = read_ground(rows + "work f num = zero\n").works()[0]
        self.assertEqual(work, ("f", [], "num", None, [ZERO]))
        work = read_ground(rows + "work f(num, num) num at 1: zero; next(ya:num)\n").works()[0]
        self.assertEqual(work, ("f", ["num", "num"], "num", 1, [ZERO, made("next", name("ya"))]))
        one = "kind at: b\nwork work(at) at at 0: b\n"
        self.assertEqual(show_ground(read_ground(one)), one)

    def test_changed_signs(self):
        text = "kind o\nkind n: z; t(n)\nwork h(o) o\nwork w n = t(z)\nwork a(n, n) n at 0: xb:n; t(a(ya:n, xb:n))\n"
        told = {"read": 0, NoText: 0, NoGround: 0}
        for other in changed_texts(text):
            refusal, lists = self.due(other)
            if refusal is None:
                read = read_ground(other)
                self.assertEqual((read.kinds(), read.works()), lists)
                self.assertEqual(show_ground(read), other)
            else:
                refused(self, refusal, read_ground, other)
            told[refusal or "read"] += 1
        self.assertGreater(min(told.values()), 50)

    def due(self, text):
        """What a text is refused with, and the lists that it tells."""
        lists = plain_read_ground(text)
        if lists is None:
            return NoText, None
        try:
            Ground(*lists)
        except NoGround:
            return NoGround, None
        return None, lists

    def test_no_text(self):
        good = "kind num: zero; next(num)\n"
        wrong = [
            good[:-1],
            good + "\n",
            "\n" + good,
            " " + good,
            good.replace("\n", "\r\n"),
            good.replace("; ", ";"),
            good.replace("; ", ", "),
            good.replace(": ", ":"),
            good.replace("(num)", "()"),
            good.replace("(num)", " (num)"),
            good.replace("kind", "Kind"),
            "kind num: \n",
            "kind num:\n",
            "kind \n",
            "kind\n",
            "kind num \n",
            "kind num: zero; \n",
            "kind num: x:num\n",
            "kind num: zero; next(next(num))\n",
            "kind no\n",
            "kind some: zero\n",
            "kind num: all\n",
            "kind num: zero; next(so)\n",
            "kind abcdefghi\n",
            good + "work f\n",
            good + "work f \n",
            good + "work f() num\n",
            good + "work f(num)num\n",
            good + "work f(num,num) num\n",
            good + "work f num =zero\n",
            good + "work f num = \n",
            good + "work f num = zero; zero\n",
            good + "work f num = zero;\n",
            good + "work not num = zero\n",
            good + "work f(num) or = zero\n",
            good + "work f(num) num = and:num\n",
            good + "work f(num) num = xa:and\n",
            good + "work f(num) num = abcdefghi\n",
            good + "work f(num) num at ",
            good + "work f(num) num at \n",
            good + "work f(num) num at 0: \n",
            good + "work f(num) num at 0:zero; zero\n",
            good + "work f(num) num at 0 zero; zero\n",
            good + "work f(num) num at : zero; zero\n",
            good + "work f(num) num at 00: zero; zero\n",
            good + "work f(num) num at 10: zero; zero\n",
            good + "work f(num) num at -1: zero; zero\n",
            good + "work f(num) num at None: zero; zero\n",
            good + "work f(num) num at \u0660: zero; zero\n",
            good + "work f(num) num at \u00b2: zero; zero\n",
            good + "work f num\nkind a\n",
            good + "held a: no\n",
            "zero\n",
            "\n",
            " ",
            "kind",
        ]
        for text in wrong:
            refused(self, NoText, read_ground, text)

    def test_no_ground(self):
        good = "kind num: zero; next(num)\n"
        wrong = [
            "kind num: next(num)\n",
            "kind num: zero(what)\n",
            "kind num: num\n",
            good + good,
            good + "kind zero\n",
            good + "work zero num\n",
            good + "work f what\n",
            good + "work f(what) num\n",
            good + "work f num = nil\n",
            good + "work f num = x:what\n",
            good + "work f(num) num = xb:num\n",
            good + "work f(num) num = zero(zero)\n",
            good + "work f(num) num = f(xa:num)\n",
            good + "work f(num) num at 0: zero\n",
            good + "work f(num) num at 0: zero; zero; zero\n",
            good + "work f(num) num at 1: zero; zero\n",
            good + "work f(num) num at 9: zero; zero\n",
            good + "work f num at 0: zero; zero\n",
            good + "work f(num, num, num, num, num) num\n",
            good + "work f(num) num = g(a:b, c(d, e), f, h, i:j, k)\n",
            "kind a\n" * 9,
            "".join(f"kind {letter}\n" for letter in "abcdefghi"),
            "kind a: b; c; d; e; f; g; h\n",
            good + "".join(f"work {letter} num\n" for letter in "abcdefghijklmnopq"),
        ]
        for text in wrong:
            refused(self, NoGround, read_ground, text)

    def test_rights_that_are_great(self):
        def row(right):
            return "kind num: zero; next(num)\nkind tree: leaf; tip(tree); fork(tree, tree)\nwork f num = " + right + "\n"

        self.assertEqual(read_ground(row(show_term(num(39)))).rights("f"), [num(39)])
        refused(self, NoText, read_ground, row(show_term(num(40))))
        refused(self, NoGround, read_ground, row(show_term(wide(41))))
        refused(self, NoGround, read_ground, row(show_term(wide(200))))
        refused(self, NoText, read_ground, row(show_term(wide(201))))
        refused(self, NoText, read_ground, row("next(" * 700 + "zero" + ")" * 700))

    def test_no_text_goes_ahead_of_no_ground(self):
        refused(self, NoText, read_ground, "kind num: next(num)\nkind no\n")
        refused(self, NoText, read_ground, "kind a\nkind a\nwork f")
        refused(self, NoText, read_ground, "kind num: zero\nwork f what = " + show_term(num(40)) + "\n")

    def test_of_anything(self):
        for thing in THINGS:
            if thing != "":
                refused(self, NoText, read_ground, thing)
        refused(self, NoText, read_ground, GROUND)
        refused(self, NoText, read_ground, [GROUND_TEXT])
        refused(self, NoText, read_ground, GROUND_TEXT.encode())


if __name__ == "__main__":
    unittest.main()
