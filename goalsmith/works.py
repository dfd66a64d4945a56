"""Texts of works: workers' words with what they need, joined by signs."""

from goalsmith.cases import ByCases, ByMakers
from goalsmith.cursors import Cursor
from goalsmith.errors import NoText
from goalsmith.goingdown import Down
from goalsmith.joined import Again, Else, Then
from goalsmith.names import LETTERS, is_name
from goalsmith.plainworkers import (
    Absurd,
    Alike,
    Apart,
    At,
    Both,
    Contrary,
    Cut,
    First,
    Fix,
    Given,
    Second,
    Show,
    Suppose,
)
from goalsmith.resting import Rewrite
from goalsmith.rows import ByRows
from goalsmith.sayingtexts import read_saying
from goalsmith.termtexts import read_term
from goalsmith.textworkers import PutAt, Use

MOST_BRACKETS = 50
TIMES = 50


def read_work(ground, text, held):
    """The worker of which a thing is the text; held tells the held things that may be named in it."""
    worker, names = work_and_names(ground, text, held)
    if any(name not in held for name in names):
        raise NoText("a name stands here that is not held")
    return worker


def work_and_names(ground, text, held):
    """The worker of a text, and the names that it names, as sorted; it is of no use where one of these is not held."""
    reader = WorkReader(ground, text, held)
    worker = reader.whole()
    return worker, reader.names()


def names_named(text):
    """The names that a work's text names, as sorted, each once."""
    if not isinstance(text, str):
        raise NoText("this is no text")
    # Nothing but a name stands behind this sign, and the sign stands nowhere else.
    words = [Cursor(piece).word_ahead() for piece in text.split("@")[1:]]
    return sorted({word for word in words if is_name(word)})


class WorkReader:
    """Reads a work's text from the left, and notes the names of held things in it."""

    def __init__(self, ground, text, held):
        self._ground = ground
        self._cursor = Cursor(text)
        self._held = held
        self._named = {}

    def names(self):
        """The names that were read, as sorted."""
        return sorted(self._named)

    def whole(self):
        """Read all of the text."""
        worker = self._work(MOST_BRACKETS)
        self._cursor.need_end()
        return worker

    def _work(self, room):
        """Read a work, in which so many brackets as there is room may stand one within another."""
        worker = self._choice(room)
        while self._cursor.passes(" ; "):
            worker = Then(worker, self._choice(room))
        return worker

    def _choice(self, room):
        worker = self._times(room)
        while self._cursor.passes(" | "):
            worker = Else(worker, self._times(room))
        return worker

    def _times(self, room):
        worker = self._unit(room)
        while self._cursor.passes(" *"):
            worker = Again(worker, TIMES)
        return worker

    def _unit(self, room):
        if not self._cursor.passes("( "):
            return self._worded()
        if room == 0:
            raise NoText("too many brackets stand here one within another")
        worker = self._work(room - 1)
        self._cursor.need(" )")
        return worker

    def _worded(self):
        word = self._cursor.word_ahead()
        self._cursor.need(word)
        if word not in NEEDS:
            return _plain_worker(word)
        act = NEEDS[word]
        return act(self)

    def number(self):
        """Read a blank and a whole number."""
        self._cursor.need(" ")
        return self._cursor.number()

    def term(self):
        """Read a blank and a term in brackets."""
        self._cursor.need(" ")
        return self._term_in_brackets()

    def _term_in_brackets(self):
        self._cursor.need("[")
        return read_term(self._ground, self._cursor.up_to("]"))

    def terms(self):
        """Read a blank and terms in brackets, a comma and a blank between, or nothing."""
        terms = []
        if self._cursor.passes_ahead_of(" ", "["):
            terms.append(self._term_in_brackets())
            while self._cursor.passes(", "):
                terms.append(self._term_in_brackets())
        return terms

    def saying_told(self):
        """Read a blank and a saying in brackets."""
        self._cursor.need(" [")
        return read_saying(self._ground, self._cursor.up_to("]"))

    def names_with_kinds(self):
        """Read a blank and names with their kinds, a comma and a blank between."""
        self._cursor.need(" ")
        names = [self._name_with_kind()]
        while self._cursor.passes(", "):
            names.append(self._name_with_kind())
        return names

    def _name_with_kind(self):
        x = self._cursor.name()
        self._cursor.need(":")
        kind = self._cursor.name()
        if not self._ground.is_kind(kind):
            raise NoText("a kind of the ground is due here")
        return (x, kind)

    def held_named(self):
        """Read the name of a held thing; this, or None where nothing of this name is held."""
        self._cursor.need("@")
        name = self._cursor.name()
        self._named[name] = True
        return self._held.get(name)

    def held_behind_blank(self):
        """Read a blank and the name of a held thing."""
        self._cursor.need(" ")
        return self.held_named()

    def sources(self):
        """Read what rules are made of, each behind a blank, one at least."""
        self._cursor.need(" ")
        sources = self._source()
        while self._cursor.passes_ahead_of(" ", LETTERS + "@"):
            sources.extend(self._source())
        return sources

    def _source(self):
        """Read a work, for all its rights, or a held thing, which may be turned."""
        if self._cursor.sign_ahead() == "@":
            held = self.held_named()
            return [(held, self._cursor.passes("<"))]
        f = self._cursor.name()
        if not self._ground.is_work(f):
            raise NoText("a work of the ground is due here")
        return [(f, k) for k in range(len(self._ground.rights(f)))]


def _plain_worker(word):
    """The worker of a word that needs nothing."""
    if word == "given":
        return Given()
    if word == "alike":
        return Alike()
    if word == "both":
        return Both()
    if word == "first":
        return First()
    if word == "second":
        return Second()
    if word == "suppose":
        return Suppose()
    if word == "fix":
        return Fix()
    if word == "contrary":
        return Contrary()
    if word == "absurd":
        return Absurd()
    if word == "rows":
        return ByRows()
    raise NoText("a worker's word is due here")


def _show(reader):
    return Show(reader.term())


def _cut(reader):
    return Cut(reader.saying_told())


def _apart(reader):
    return Apart(reader.number())


def _at(reader):
    number = reader.number()
    return At(number, reader.term())


def _put(reader):
    number = reader.number()
    return PutAt(number, reader.number())


def _cases(reader):
    return ByCases(reader.saying_told())


def _makers(reader):
    return ByMakers(reader.term())


def _down(reader):
    names = reader.names_with_kinds()
    x, kind = names[0]
    return Down(x, kind, names[1:])


def _rest(reader):
    return Rewrite(reader.sources())


def _use(reader):
    held = reader.held_behind_blank()
    return Use(held, reader.terms())


NEEDS = {
    "show": _show,
    "cut": _cut,
    "apart": _apart,
    "at": _at,
    "put": _put,
    "cases": _cases,
    "makers": _makers,
    "down": _down,
    "rest": _rest,
    "use": _use,
}
