import copy
import itertools
import random
import unittest

from goalsmith.books import Book, looked_through, read_book
from goalsmith.errors import BadText, Fails, Left, NoName, NoRow, SmithError, Taken, Unfit
from goalsmith.helds import Held
from goalsmith.kernel import Kernel
from goalsmith.papers import leans
from goalsmith.reader import read_paper
from goalsmith.resting import Rewrite, at_rest
from goalsmith.sayings import is_saying
from goalsmith.sayingtexts import read_saying, show
from goalsmith.termtexts import show_ground
from goalsmith.works import names_named, read_work
from tests.papersupport import NO, P, nots, same
from tests.support import THINGS, ZERO, Alike, made, name, num, refused

GROUND_ROWS = """kind num: zero; next(num)
work add(num, num) num at 0: xb:num; next(add(ya:num, xb:num))
"""
BOOK = GROUND_ROWS + """held addzero: all x:num. add(x:num, zero) = x:num
by fix ; down a:num ; rest add ; put 0 1 ; alike
held addnext: all x:num. all y:num. add(x:num, next(y:num)) = next(add(x:num, y:num))
by fix ; fix ; down a:num ; rest add ; put 0 0 ; alike
held swap: all x:num. all y:num. add(x:num, y:num) = add(y:num, x:num)
by fix ; fix ; down a:num ; ( rest add @addzero @addnext ; put 0 0 ; alike ) | rest add @addzero @addnext
held one: add(next(zero), zero) = next(zero)
by use @addzero [next(zero)] ; given
held turn: all a:num. (a:num = zero or not a:num = zero)
by fix ; rows
held again: add(next(zero), zero) = next(zero)
by use @one ; given
"""
NAMES = ["addzero", "addnext", "swap", "one", "turn", "again"]


def rows_of(text):
    return text.split("\n")[:-1]


def text_of(rows):
    return "".join(row + "\n" for row in rows)


class BooksTest(unittest.TestCase):
    def reads(self, text):
        """A book is read, and all that it tells is right."""
        book = read_book(text)
        ground = book.ground()
        self.assertIsInstance(book, Book)
        self.assertEqual(book.shown(), text)
        held_rows = [row for row in rows_of(text) if row.startswith("held ")]
        by_rows = [row[3:] for row in rows_of(text) if row.startswith("by ")]
        self.assertEqual(book.names(), [row[5:].partition(":")[0] for row in held_rows])
        self.assertEqual(show_ground(ground), text_of([row for row in rows_of(text) if row.startswith(("kind ", "work "))]))
        for at, one in enumerate(book.names()):
            saying = read_saying(ground, held_rows[at].partition(": ")[2])
            self.assertEqual((book.saying(one), book.work(one)), (saying, by_rows[at]))
            self.assertEqual(book.leans(one), names_named(by_rows[at]))
            self.assertLessEqual(set(book.leans(one)), set(book.names()[:at]))
            held = book.held(one)
            self.assertIsInstance(held, Held)
            self.assertEqual((held.lent(), held.given(), held.saying()), ([], (), saying))
            self.assertEqual(read_paper(ground, [], held.paper()), ("held", (), saying))
        self.right(ground, book.entries())
        self.assertEqual([(one, saying) for one, saying, _ in book.entries()], [(one, book.saying(one)) for one in book.names()])
        for one, _, paper in book.entries():
            self.assertLessEqual({book.names()[k] for k in leans(paper)}, set(book.leans(one)))
        return book

    def right(self, ground, entries):
        """Each paper leans on earlier entries alone, and reads to its saying; so they are looked through."""
        for at, (_, saying, paper) in enumerate(entries):
            lent = [((), entries[k][1]) for k in range(at)]
            self.assertEqual(read_paper(ground, lent, paper), ("held", (), saying))
            self.assertTrue(all(k < at for k in leans(paper)))
        self.assertEqual(looked_through(ground, entries), ("held", len(entries)))

    def refuses(self, text, refusal, at, *goals):
        error = refused(self, refusal, read_book, text)
        self.assertEqual(error.at, at, text)
        if refusal is Left:
            self.assertEqual(error.goals, list(goals))
        # Shown twice, it is refused twice alike.
        self.assertEqual(refused(self, refusal, read_book, text).at, at)


class TestBook(BooksTest):
    def test_a_book(self):
        book = self.reads(BOOK)
        self.assertEqual(book.names(), NAMES)
        self.assertEqual([book.leans(one) for one in NAMES], [[], [], ["addnext", "addzero"], ["addzero"], [], ["one"]])
        self.assertEqual(book.work("turn"), "fix ; rows")
        self.assertEqual(show(book.saying("one")), "add(next(zero), zero) = next(zero)")

    def test_read_again(self):
        book = self.reads(BOOK)
        again = self.reads(book.shown())
        self.assertEqual(again.entries(), book.entries())
        for one in NAMES:
            self.assertEqual(again.held(one).paper(), book.held(one).paper())
        self.assertEqual(read_book(BOOK).entries(), book.entries())

    def test_a_ground_alone(self):
        book = self.reads(GROUND_ROWS)
        self.assertEqual((book.names(), book.entries()), ([], []))
        self.reads("kind a\n")
        self.reads("kind a\nkind b: c; d(b)\nwork f(a, b) a\n")

    def test_without_rows(self):
        book = self.reads("")
        self.assertEqual((book.names(), book.shown(), book.entries(), book.ground().kinds(), book.ground().works()), ([], "", [], [], []))

    def test_sayings_without_a_ground(self):
        book = self.reads("held a: (no so no)\nby suppose ; given\nheld b: not no\nby rows\n")
        self.assertEqual(book.saying("b"), ("not", NO))

    def test_names_like_words(self):
        """Names of sayings may be called like kinds, makers, works and words of works."""
        self.reads(GROUND_ROWS + "held num: zero = zero\nby alike\nheld zero: zero = zero\nby use @num ; given\nheld held: not no\nby rows\n"
                   "held by: zero = zero\nby use @zero ; given\nheld given: zero = zero\nby rest @by | use @by ; given\n")

    def test_a_saying_with_two_names(self):
        book = self.reads("held a: (no so no)\nby suppose ; given\nheld b: (no so no)\nby use @a ; given\nheld c: (no so no)\nby rows\n")
        entries = book.entries()
        self.assertEqual([leans(paper) for _, _, paper in entries], [[], [0], []])
        self.assertEqual(len(entries[1][2]), 1)

    def test_papers_lean_on_earlier_entries(self):
        """What an entry's work names stands in its paper as a lent goal."""
        entries = read_book(BOOK).entries()
        self.assertEqual([leans(paper) for _, _, paper in entries], [[], [], [0, 1], [0], [], [3]])

    def test_papers_lean_on_what_their_works_name_alone(self):
        """What an earlier entry says may come to be held without it."""
        rows = "held a: zero = zero\nby alike\nheld b: zero = zero\nby use @a ; given\n"
        for work, due in (("both ; alike", []), ("both ; ( use @a ; given ) | alike", [0]), ("both ; use @b ; given", [1]), ("both ; use @b ; use @a ; given", [0])):
            entries = self.reads(GROUND_ROWS + rows + f"held c: (zero = zero and zero = zero)\nby {work}\n").entries()
            self.assertEqual(leans(entries[2][2]), due)

    def test_told_lists(self):
        book = read_book(BOOK)
        due = copy.deepcopy((book.names(), book.entries(), book.leans("swap"), book.held("swap").paper()))
        book.names().clear()
        book.leans("swap").clear()
        entries = book.entries()
        entries[0][2].clear()
        entries.clear()
        book.held("swap").paper().clear()
        self.assertEqual((book.names(), book.entries(), book.leans("swap"), book.held("swap").paper()), due)

    def test_the_held_things_at_work(self):
        """What a book tells as held is a source of rules, and may be named in works."""
        book = read_book(BOOK)
        ground = book.ground()
        a = name("a")
        held = at_rest(Kernel(ground), [(book.held("addzero"), False)], made("add", a, ZERO))
        self.assertEqual((held.given(), held.saying()), ((), same(made("add", a, ZERO), a)))
        told, way = Rewrite([(book.held("addnext"), False), (book.held("addzero"), False)]).work(ground, ((), same(made("add", a, num(3)), made("next", a))))
        self.assertEqual(told, [((), same(made("next", made("next", made("next", a))), made("next", a)))])
        self.assertEqual(read_paper(ground, told, way)[0], "held")
        worker = read_work(ground, "use @swap [a:num], [zero] ; rest @addzero ; given", {one: book.held(one) for one in book.names()})
        self.assertRaises(Fails, worker.work, ground, ((), same(made("add", ZERO, a), ZERO)))

    def test_long_books(self):
        rows = rows_of(GROUND_ROWS) + ["held a: zero = zero", "by alike"]
        names = ["a"]
        for one in "bcdefghijklmnopqrstuvwxyz":
            rows += [f"held {one}: zero = zero", f"by use @{names[-1]} ; given"]
            names.append(one)
        self.assertEqual(self.reads(text_of(rows)).names(), names)


class TestNoRow(BooksTest):
    def test_no_such_row(self):
        whole = rows_of(BOOK)
        for row in ("", " ", "what", "held", "held ", "held a", "held a:", "held a: ", "by", "by ", "by given", "kind", "kinds a", "work", "works", "Held a: no", "held  a: no",
                    "held a : no", "held a; no", "held : no", "held A: no", "held all: no", "held abcdefghi: no", "held a1: no", "held a b: no", " held a: no", "heldx a: no",
                    "kin num", "held a:no", "held\ta: no", "#"):
            if row != "held a: ":
                self.refuses(text_of(whole + [row]), NoRow, len(whole) + 1)
                self.refuses(text_of(whole[:4] + [row] + whole[4:]), NoRow, 5)
                self.refuses(text_of([row] + whole), NoRow, 1)
                # What is no such row is none with a work behind it, either.
                if not row.startswith("by"):
                    self.refuses(text_of(whole + [row, "by given"]), NoRow, len(whole) + 1)
        for row in ("holds a: zero = zero", "HELD a: zero = zero", "     a: zero = zero", "xxxxxa: zero = zero", "heldxa: zero = zero", "held a:zero = zero"):
            self.refuses(text_of(whole + [row, "by alike"]), NoRow, len(whole) + 1)
        self.refuses("\n", NoRow, 1)
        self.refuses("\n" + BOOK, NoRow, 1)
        self.refuses(BOOK + "\n", NoRow, len(whole) + 1)

    def test_line_feeds(self):
        whole = rows_of(BOOK)
        self.refuses(BOOK[:-1], NoRow, len(whole) - 1)
        self.refuses(text_of(whole[:-1])[:-1], NoRow, len(whole) - 1)
        for many in range(1, len(whole)):
            text = text_of(whole[:many])[:-1]
            at = many
            if whole[many - 1].startswith("by "):
                at = many - 1
            self.refuses(text, NoRow, at)
        self.refuses("kind a", NoRow, 1)
        self.refuses("what", NoRow, 1)
        self.refuses("kind a\nkind b", NoRow, 2)
        self.refuses("kind a\n ", NoRow, 2)
        self.refuses(BOOK + "x", NoRow, len(whole) + 1)
        for sign in ("\r\n", "\r", "\x0b", "\x0c", "\x1c", "\x85", "\u2028"):
            self.refuses("kind a" + sign, BadText if sign == "\r\n" else NoRow, 1)
            self.refuses("held a: not no" + sign + "by rows\n", BadText if sign == "\r\n" else NoRow, 1)

    def test_by_lacks_behind(self):
        whole = rows_of(BOOK)
        for at in range(2, len(whole), 2):
            self.refuses(text_of(whole[:at + 1]), NoRow, at + 1)
            for row in ("", "by", "bye given", "held b: no", "By given", " by given", "kind a"):
                self.refuses(text_of(whole[:at + 1] + [row] + whole[at + 2:]), NoRow, at + 1)
            self.refuses(text_of(whole[:at + 1] + whole[at + 2:]), NoRow, at + 1)
        self.refuses("held a: what\n", NoRow, 1)
        self.refuses("held a: what\nby given", NoRow, 1)

    def test_the_grounds_rows_behind_a_saying(self):
        whole = rows_of(BOOK)
        for row in ("kind more", "work f num", rows_of(GROUND_ROWS)[0]):
            for at in range(4, len(whole) + 1, 2):
                self.refuses(text_of(whole[:at] + [row] + whole[at:]), NoRow, at + 1)

    def test_no_text(self):
        for thing in THINGS:
            if not isinstance(thing, str):
                self.assertEqual(refused(self, NoRow, read_book, thing).at, 1)


class TestBadText(BooksTest):
    def test_rows_of_the_ground(self):
        for rows, at in ((["kind a:"], 1), (["kind a: "], 1), (["kind "], 1), (["kind A"], 1), (["kind a", "kind a"], 2), (["kind num: next(num)"], 1), (["kind a", "work f(b) a"], 2),
                         (["work f a", "kind a"], 1), (["kind a", "work f a", "kind b"], 3), (["kind a", "kind b: c; d(e)"], 2), (["kind a", "work f a = x"], 2),
                         (["kind a", "work f a = f"], 2), (["kind no"], 1), (["kind a "], 1), (["kind  a"], 1), (["kind a", "work "], 2), (["kind a; b"], 1)):
            self.refuses(text_of(rows), BadText, at)
            self.refuses(text_of(rows + ["kind b", "what"]), BadText, at)
            self.refuses(text_of(rows + ["held a: no", "by given"]), BadText, at)
        self.refuses("kind a\nkind a", NoRow, 2)
        self.refuses(text_of(["kind a" + letter for letter in "bcdefghij"]), BadText, 9)

    def test_each_row_of_a_long_ground(self):
        """Down to the first bad row the rows make a ground, however many stand behind it, and whatever these are."""
        rows = ["kind a" + letter for letter in "bcdefgh"] + ["kind num: zero; next(num)"]
        rows += [f"work f{letter}(num) num at 0: zero; next(f{letter}(ya:num))" for letter in "abcdefghijklmno"] + ["work g num = fa(zero)"]
        self.assertEqual(len(self.reads(text_of(rows)).ground().works()), 16)
        for at in range(len(rows)):
            for bad in ("kind", "work"):
                for row in (f"{bad} ", f"{bad} A", f"{bad} zero: zero"):
                    self.refuses(text_of(rows[:at] + [row] + rows[at:]), BadText, at + 1)
                    self.refuses(text_of(rows[:at] + [row]), BadText, at + 1)
                    self.refuses(text_of(rows[:at] + [row] + rows[at:] + [row, "held a: zero = zero", "by alike"]), BadText, at + 1)
        self.refuses(text_of(rows + ["work h num"]), BadText, 25)

    def test_sayings(self):
        for saying in ("", " ", "what", "zero", "zero = nil", "zero = zero ", " zero = zero", "a:num = a:num", "all x:num. x:num = y:num", "not a:num = zero", "a:what = a:what",
                       "not " * 40 + "no", "(no and no", "zero = zero\r", "all x:what. no", "some x:num. x:list = x:list"):
            self.refuses(GROUND_ROWS + f"held a: {saying}\nby rows\n", BadText, 3)
            self.refuses(BOOK + f"held a: {saying}\nby what\n", BadText, len(rows_of(BOOK)) + 1)
        self.reads(GROUND_ROWS + "held a: all x:num. (x:num = x:num so not not x:num = x:num)\nby fix ; rows\n")

    def test_works(self):
        for work in ("", " ", "what", "given ", " given", "show [what]", "use @", "rest what", "( given", "apart 01", "use @what what", "rest @what ; what"):
            self.refuses(GROUND_ROWS + f"held a: zero = zero\nby {work}\n", BadText, 4)


class TestOthers(BooksTest):
    def test_taken(self):
        self.refuses(BOOK + "held one: zero = zero\nby alike\n", Taken, len(rows_of(BOOK)) + 1)
        self.refuses(GROUND_ROWS + "held a: zero = zero\nby alike\nheld a: zero = zero\nby alike\n", Taken, 5)

    def test_names_that_are_not_held_ahead(self):
        for work in ("use @b", "rest @b", "given | use @b [zero]", "alike ; rest add @b<", "use @a", "( rest @a ) *", "rest @c @b"):
            self.refuses(GROUND_ROWS + f"held a: zero = zero\nby {work}\nheld b: zero = zero\nby alike\n", NoName, 4)
            self.refuses(GROUND_ROWS + f"held c: zero = zero\nby alike\nheld a: zero = zero\nby {work}\nheld b: zero = zero\nby alike\n", NoName, 6)

    def test_unfit(self):
        for work in ("given", "fix", "both", "rest add", "apart 0", "rows", "suppose ; given", "cut [a:num = zero] ; given", "show [zero]"):
            self.refuses(GROUND_ROWS + f"held a: next(zero) = zero\nby {work}\n", Unfit, 4)
        self.refuses(GROUND_ROWS + "held b: zero = zero\nby alike\nheld a: next(zero) = zero\nby rest @b\n", Unfit, 6)
        self.refuses(GROUND_ROWS + "held b: zero = zero\nby alike\nheld a: next(zero) = zero\nby use @b [zero]\n", Unfit, 6)

    def test_left(self):
        wrong = same(num(1), ZERO)
        rows = GROUND_ROWS + "held a: next(zero) = zero\nby "
        self.refuses(rows + "given *\n", Left, 4, ((), wrong))
        self.refuses(rows + "absurd\n", Left, 4, ((), NO))
        self.refuses(rows + "contrary\n", Left, 4, ((("not", wrong),), NO))
        self.refuses(rows + "cases [no]\n", Left, 4, ((NO,), wrong), ((("not", NO),), wrong))
        self.refuses(rows + "cut [zero = zero] ; alike | absurd\n", Left, 4, ((same(ZERO, ZERO),), NO))
        self.refuses(BOOK + "held a: add(zero, zero) = next(zero)\nby use @one ; rest add\n", Left, len(rows_of(BOOK)) + 2,
                     ((same(made("add", num(1), ZERO), num(1)),), same(ZERO, num(1))))
        error = refused(self, Left, read_book, rows + "absurd\n")
        error.goals.clear()
        self.refuses(rows + "absurd\n", Left, 4, ((), NO))


class TestOrder(BooksTest):
    """Of several that are due at one row, the one told first."""

    def test_at_the_first_row(self):
        taken = GROUND_ROWS + "held a: zero = zero\nby alike\n"
        self.refuses(taken + "held a: what\nby what\n", Taken, 5)
        self.refuses(taken + "held a: b:num = b:num\nby use @c\n", Taken, 5)
        self.refuses(taken + "held a: what\nwhat\n", NoRow, 5)
        self.refuses(taken + "held a: what\nby given", NoRow, 5)
        self.refuses(taken + "held all: what\nby what\n", NoRow, 5)
        self.refuses(taken + "held b: what\nwhat\n", NoRow, 5)
        self.refuses(taken + "held b: what\nby what\n", BadText, 5)

    def test_at_the_second_row(self):
        rows = GROUND_ROWS + "held a: next(zero) = zero\nby "
        self.refuses(rows + "use @b ; what\n", BadText, 4)
        self.refuses(rows + "use @b what\n", BadText, 4)
        self.refuses(rows + "given ; use @b\n", NoName, 4)
        self.refuses(rows + "absurd | use @b\n", NoName, 4)
        self.refuses(rows + "absurd ; given\n", Unfit, 4)

    def test_row_by_row(self):
        """What is wrong further down is not looked at."""
        wrong = ["kind a:", "held b: zero = nil\nby alike", "held b: zero = zero\nby what", "held b: zero = zero\nby use @c", "held b: zero = next(zero)\nby alike",
                 "held b: zero = zero\nby given *", "what", "held b: zero = zero"]
        due = [BadText, BadText, BadText, NoName, Unfit, Left, NoRow, NoRow]
        ats = [0, 0, 1, 1, 1, 1, 0, 0]
        for one, other in itertools.product(range(len(wrong)), repeat=2):
            text = GROUND_ROWS + wrong[one] + "\n" + wrong[other] + "\n"
            error = refused(self, due[one], read_book, text)
            self.assertEqual(error.at, 3 + ats[one])

    def test_changed_books(self):
        """A book with a row changed is refused by one of the six, or is read."""
        chance = random.Random(79)
        whole = rows_of(BOOK)
        told = {}
        for _ in range(400):
            rows = list(whole)
            for _ in range(chance.randrange(1, 3)):
                at = chance.randrange(len(rows))
                act = chance.randrange(5)
                if act == 0:
                    del rows[at]
                elif act == 1:
                    rows.insert(at, chance.choice(whole))
                elif act == 2:
                    rows[at] = chance.choice(whole)
                else:
                    place = chance.randrange(len(rows[at]) + 1)
                    rows[at] = rows[at][:place] + chance.choice("az:;. @") + rows[at][place + chance.randrange(2):]
            try:
                book = read_book(text_of(rows))
                self.right(book.ground(), book.entries())
                word = "read"
            except SmithError as error:
                word = error.__class__.__name__
                self.assertIn(error.__class__, (NoRow, BadText, Taken, NoName, Unfit, Left))
                self.assertIn(error.at, range(1, len(rows) + 1))
                self.assertEqual(refused(self, error.__class__, read_book, text_of(rows)).at, error.at)
                # What stands ahead of that row is read.
                ahead = rows[:error.at - 1]
                if ahead and ahead[-1].startswith("held "):
                    ahead.pop()
                read_book(text_of(ahead))
            told[word] = told.get(word, 0) + 1
        self.assertGreaterEqual(len(told), 6, told)


class TestLookedThrough(BooksTest):
    def setUp(self):
        self.book = read_book(BOOK)
        self.ground = self.book.ground()

    def plain(self, entries):
        """What is due, by the reader alone."""
        lent = []
        for k, entry in enumerate(entries):
            if not isinstance(entry, tuple) or len(entry) != 3:
                return ("wrong", k, 0)
            told = read_paper(self.ground, lent, entry[2])
            if told[0] == "wrong":
                return ("wrong", k, told[1])
            if not is_saying(self.ground, entry[1]) or told != ("held", (), entry[1]):
                return ("wrong", k, len(entry[2]))
            lent.append(((), entry[1]))
        return ("held", len(entries))

    def told(self, entries, *due):
        was = [tuple(list(part) if isinstance(part, list) else part for part in entry) if isinstance(entry, tuple) else entry for entry in entries]
        told = looked_through(self.ground, entries)
        self.assertEqual(told, self.plain(entries))
        if due:
            self.assertEqual(told, due)
        self.assertEqual(entries, was)
        return told

    def test_held(self):
        entries = self.book.entries()
        for many in range(len(entries) + 1):
            self.told(entries[:many], "held", many)
        self.assertEqual(looked_through(self.ground, []), ("held", 0))

    def test_names_play_no_part(self):
        entries = self.book.entries()
        for thing in THINGS + [Alike()]:
            self.told([(thing, saying, paper) for _, saying, paper in entries], "held", len(entries))

    def test_exchanged_left_out_twice(self):
        entries = self.book.entries()
        words = set()
        for one, other in itertools.combinations(range(len(entries)), 2):
            rows = list(entries)
            rows[one], rows[other] = rows[other], rows[one]
            words.add(self.told(rows)[0])
        for at in range(len(entries)):
            words.add(self.told(entries[:at] + entries[at + 1:])[0])
            words.add(self.told(entries[:at] + [entries[at]] + entries[at:])[0])
            words.add(self.told(entries + [entries[at]])[0])
        self.assertEqual(words, {"held", "wrong"})
        # The third one leans on the first and the second.
        self.told([entries[1], entries[0], entries[2]], *self.plain([entries[1], entries[0], entries[2]]))
        self.assertEqual(self.told([entries[0], entries[2]])[:2], ("wrong", 1))

    def test_papers_cut(self):
        entries = self.book.entries()
        for k, (one, saying, paper) in enumerate(entries):
            lent = [((), earlier) for _, earlier, _ in entries[:k]]
            for many in range(len(paper)):
                told = self.told(entries[:k] + [(one, saying, paper[:many])] + entries[k + 1:])
                # A step ahead of the last one may hold the saying, too.
                self.assertIn(told, [("wrong", k, many), ("held", len(entries))])
                self.assertEqual(told[0] == "held", read_paper(self.ground, lent, paper[:many]) == ("held", (), saying))
            for at in range(len(paper)):
                told = self.told(entries[:k] + [(one, saying, paper[:at] + paper[at + 1:])] + entries[k + 1:])
                self.assertTrue(told == ("held", len(entries)) or told[:2] == ("wrong", k) and at <= told[2] <= len(paper))
            for more in (paper[0], paper[-1], ("take", (), (NO,)), None):
                self.told(entries[:k] + [(one, saying, paper + [more])] + entries[k + 1:])
                self.told(entries[:k] + [(one, saying, [more] + paper)] + entries[k + 1:])

    def test_other_sayings(self):
        entries = self.book.entries()
        for k, (one, saying, paper) in enumerate(entries):
            for other in [NO, ("not", saying), P, same(ZERO, ZERO)] + [entries[(k + 1) % 3][1]]:
                if other != saying:
                    self.told(entries[:k] + [(one, other, paper)] + entries[k + 1:], "wrong", k, len(paper))
            for thing in THINGS + [Alike(), list(saying)]:
                self.told(entries[:k] + [(one, thing, paper)] + entries[k + 1:], "wrong", k, len(paper))

    def test_something_given(self):
        paper = [("take", (), (P,))]
        self.told([("a", P, paper)], "wrong", 0, 1)
        self.told([("a", ("so", P, P), paper + [("so", (0,), (P,))])], "held", 1)
        more = paper + [("so", (0,), (P,)), ("more", (1,), (NO,))]
        self.told([("a", ("so", P, P), more)], "wrong", 0, 3)

    def test_papers_that_are_none(self):
        entries = self.book.entries()
        for k, (one, saying, paper) in enumerate(entries):
            for thing in THINGS + [Alike(), tuple(paper), {"paper": paper}]:
                if not isinstance(thing, list) or not thing:
                    self.told(entries[:k] + [(one, saying, thing)] + entries[k + 1:], "wrong", k, 0)
                else:
                    self.told(entries[:k] + [(one, saying, thing)] + entries[k + 1:], "wrong", k, 0)

    def test_entries_that_are_none(self):
        entries = self.book.entries()
        for k, entry in enumerate(entries):
            for thing in THINGS + [Alike(), list(entry), entry[:2], entry + (None,), entry[0], entry[2]]:
                if not isinstance(thing, tuple) or len(thing) != 3:
                    self.told(entries[:k] + [thing] + entries[k + 1:], "wrong", k, 0)
                else:
                    self.assertEqual(self.told(entries[:k] + [thing] + entries[k + 1:])[:2], ("wrong", k))

    def test_lent_by_their_numbers(self):
        """All earlier ones are lent, and no later one, nor the entry itself."""
        a, b = ("not", NO), ("so", NO, NO)
        first = ("a", a, [("take", (), (NO,)), ("deny", (0,), (NO,))])
        second = ("b", b, [("take", (), (NO,)), ("so", (0,), (NO,))])
        both = ("c", ("and", b, a), [("lent", (), (1,)), ("lent", (), (0,)), ("both", (0, 1), ())])
        self.told([first, second, both], "held", 3)
        self.told([second, first, both], "wrong", 2, 3)
        self.told([first, both, second], "wrong", 1, 0)
        self.told([both, first, second], "wrong", 0, 0)
        self.told([first, ("b", b, [("lent", (), (1,))])], "wrong", 1, 0)
        self.told([first, ("b", a, [("lent", (), (0,))])], "held", 2)
        self.told([first, ("b", a, [("lent", (), (True,))])], "wrong", 1, 0)
        self.told([first, ("b", a, [("lent", (), (-1,))])], "wrong", 1, 0)

    def test_great_sayings(self):
        """What is great may be held, but is no goal that may be lent."""
        great = nots(41)
        steps = [("take", (), (nots(40),)), ("so", (0,), (nots(40),))]
        saying = ("so", nots(40), nots(40))
        self.told([("a", saying, steps)], "held", 1)
        self.told([("a", saying, steps), ("b", saying, [("lent", (), (0,))])], "wrong", 1, 0)
        self.assertNotEqual(great, saying)

    def test_by_the_first_wrong_one(self):
        entries = self.book.entries()
        wrong = ("what", NO, [])
        for k in range(len(entries)):
            for j in range(k, len(entries)):
                rows = list(entries)
                rows[k] = rows[j] = wrong
                self.told(rows, "wrong", k, 0)

    def test_changed_by_chance(self):
        """Changed entries are right still, or are told at the first wrong place."""
        chance = random.Random(83)
        entries = self.book.entries()
        words = {"held": 0, "wrong": 0}
        for _ in range(400):
            rows = copy.deepcopy(entries)
            for _ in range(chance.randrange(1, 3)):
                k = chance.randrange(len(rows))
                one, saying, paper = rows[k]
                act = chance.randrange(6)
                at = chance.randrange(len(paper)) if paper else 0
                if act == 0:
                    rows[k] = (one, rows[chance.randrange(len(rows))][1], paper)
                elif act == 1 and paper:
                    del paper[at]
                elif act == 2 and paper:
                    paper[at] = chance.choice(chance.choice(entries)[2])
                elif act == 3 and paper:
                    rule, uses, told = paper[at]
                    paper[at] = (rule, tuple(chance.randrange(at + 1) for _ in uses), told)
                elif act == 4:
                    del rows[k]
                elif paper:
                    paper.insert(at, chance.choice(paper))
            words[self.told(rows)[0]] += 1
        self.assertGreater(words["held"], 5)
        self.assertGreater(words["wrong"], 200)


if __name__ == "__main__":
    unittest.main()
