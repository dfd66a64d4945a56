"""Sayings of a ground, and bodies: what stands behind an all or some."""

from goalsmith.names import is_whole
from goalsmith.terms import NO_END, kind_within, note_names, room_for

JOINS = ("and", "or", "so")
BINDS = ("all", "some")
LENGTHS = {"same": 3, "no": 1, "not": 2, "and": 3, "or": 3, "so": 3, "all": 3, "some": 3}


def is_saying(ground, thing):
    """Whether a thing, whatever it is, is a saying of the ground."""
    return is_saying_to(ground, thing, NO_END)


def is_saying_to(ground, thing, most):
    """Whether a thing, whatever it is, is a saying of the ground, of no more tuples than so many signs may have."""
    return is_saying_within(ground, thing, (), room_for(most))


def is_body(ground, kind, thing):
    """Whether a thing is a body of a kind of the ground, whatever both are."""
    return is_body_to(ground, kind, thing, NO_END)


def is_body_to(ground, kind, thing, most):
    """Whether a thing is a body of a kind of the ground, of no more tuples than so many signs may have."""
    return ground.is_kind(kind) and is_saying_within(ground, thing, (kind,), room_for(most))


def is_saying_within(ground, thing, around, room):
    """Whether a thing is a saying where all and some of these kinds stand around, the nearest first."""
    room[0] -= 1
    if room[0] < 0 or not isinstance(thing, tuple) or len(thing) == 0 or not isinstance(thing[0], str):
        return False
    word = thing[0]
    if LENGTHS.get(word) != len(thing):
        return False
    if word == "same":
        kind = kind_within(ground, thing[1], around, room)
        return kind is not None and kind == kind_within(ground, thing[2], around, room)
    if word in BINDS:
        return ground.is_kind(thing[1]) and is_saying_within(ground, thing[2], (thing[1],) + around, room)
    for part in thing[1:]:
        if not is_saying_within(ground, part, around, room):
            return False
    return True


def opened(body, term):
    """The saying with a term for what is meant in a body."""
    return _opened(body, ("bound", 0), term)


def _opened(thing, meant, term):
    """What stands in a body, or it itself, opened by a term; told is what is meant there."""
    word = thing[0]
    if word == "made":
        return (word, thing[1], tuple([_opened(part, meant, term) for part in thing[2]])) if thing[2] else thing
    if word == "bound":
        return term if thing == meant else thing
    if word == "name":
        return thing
    if word in BINDS:
        return (word, thing[1], _opened(thing[2], _deeper(meant), term))
    return (word,) + tuple([_opened(part, meant, term) for part in thing[1:]])


def _deeper(meant):
    """What is meant within one more all or some."""
    return ("bound", meant[1] + 1)


def is_opened_to(thing, term, saying):
    """Whether a thing, whatever it is, is a body of the term's kind that is opened by the term to just the saying."""
    return _is_opened_to(thing, ("bound", 0), term, saying)


def _is_opened_to(thing, meant, term, due):
    """Whether a thing, whatever it is, opened by a term is the saying or term that is due."""
    if not isinstance(thing, tuple) or len(thing) == 0 or not isinstance(thing[0], str):
        return False
    word = thing[0]
    if word == "bound":
        return len(thing) == 2 and is_whole(thing[1]) and due == (term if thing == meant else thing)
    if word != due[0] or len(thing) != len(due):
        return False
    if word == "made":
        return _is_one(thing[1], due[1]) and _are_opened_to(thing[2], meant, term, due[2])
    if word == "name":
        return _is_one(thing[1], due[1]) and _is_one(thing[2], due[2])
    if word in BINDS:
        return _is_one(thing[1], due[1]) and _is_opened_to(thing[2], _deeper(meant), term, due[2])
    return _are_opened_to(thing[1:], meant, term, due[1:])


def _are_opened_to(things, meant, term, dues):
    """Whether things are, one for one, opened to what is due."""
    if not isinstance(things, tuple) or len(things) != len(dues):
        return False
    for thing, due in zip(things, dues):
        if not _is_opened_to(thing, meant, term, due):
            return False
    return True


def _is_one(thing, text):
    """Whether a thing is this text; a thing may say of itself that it is the same as any other."""
    return isinstance(thing, str) and thing == text


def shut(saying, x, kind):
    """The body with what is meant for a name."""
    return _changed(saying, 0, lambda leaf, deep: ("bound", deep) if leaf == ("name", x, kind) else leaf)


def put_in(saying, x, kind, term):
    """The saying with a term in all places of a name."""
    return _changed(saying, 0, lambda leaf, deep: term if leaf == ("name", x, kind) else leaf)


def _changed(thing, deep, change):
    """A term or saying with all that has no parts changed, told how many all and some stand around."""
    word = thing[0]
    if word in ("name", "bound"):
        return change(thing, deep)
    if word == "made":
        return ("made", thing[1], tuple([_changed(part, deep, change) for part in thing[2]]))
    if word in BINDS:
        return (word, thing[1], _changed(thing[2], deep + 1, change))
    return (word,) + tuple([_changed(part, deep, change) for part in thing[1:]])


def free_in(sayings):
    """The free names in a list of sayings, with their kinds, sorted, each once."""
    found = {}
    for saying in sayings:
        note_names(saying, found)
    return sorted(found)
