"""Sayings, written and read."""

from goalsmith.cursors import Cursor
from goalsmith.errors import NoText
from goalsmith.names import first_name
from goalsmith.sayings import BINDS, JOINS, free_in, is_saying, shut
from goalsmith.terms import MOST_DEEP, is_great
from goalsmith.termtexts import term_at, written


def show(saying):
    """A saying's text."""
    return _shown(saying, {x: True for x, _ in free_in([saying])}, ())


def _shown(saying, barred, around):
    """A saying's text within what binds these names with kinds; what is bound in it is called by no barred name."""
    word = saying[0]
    if word == "no":
        return "no"
    if word == "same":
        return f"{written(saying[1], around)} = {written(saying[2], around)}"
    if word == "not":
        return f"not {_shown(saying[1], barred, around)}"
    if word in BINDS:
        x = first_name(barred)
        kind = saying[1]
        body = _shown(saying[2], {**barred, x: True}, ((x, kind),) + around)
        return f"{word} {x}:{kind}. {body}"
    return f"({_shown(saying[1], barred, around)} {word} {_shown(saying[2], barred, around)})"


def read_saying(ground, text):
    """The saying of the ground of which a thing is the text."""
    cursor = Cursor(text)
    saying = saying_at(cursor, MOST_DEEP)
    cursor.need_end()
    if not is_saying(ground, saying) or is_great(saying):
        raise NoText("this is no text of a saying of the ground that is not great")
    return saying


def saying_at(cursor, room):
    """Read what is written like a saying, in which so many tuples as there is room may stand one within another."""
    if room == 0:
        raise NoText("too much stands here one within another")
    if cursor.passes("("):
        return _joined_at(cursor, room)
    word = cursor.word_ahead()
    if word == "no":
        cursor.need("no")
        return ("no",)
    if word == "not":
        cursor.need("not ")
        return ("not", saying_at(cursor, room - 1))
    if word in BINDS:
        return _binding_at(cursor, word, room)
    one = term_at(cursor, room - 1)
    cursor.need(" = ")
    return ("same", one, term_at(cursor, room - 1))


def _joined_at(cursor, room):
    one = saying_at(cursor, room - 1)
    cursor.need(" ")
    word = cursor.word_ahead()
    if word not in JOINS:
        raise NoText("and, or, or so is due here")
    cursor.need(word + " ")
    other = saying_at(cursor, room - 1)
    cursor.need(")")
    return (word, one, other)


def _binding_at(cursor, word, room):
    cursor.need(word + " ")
    x = cursor.name()
    cursor.need(":")
    kind = cursor.name()
    cursor.need(". ")
    # What a nearer all or some binds is no name any more when this one is shut.
    return (word, kind, shut(saying_at(cursor, room - 1), x, kind))
