"""Sayings of a ground, and bodies: what stands behind an all or some."""

from goalsmith.terms import kind_within, note_names

JOINS = ("and", "or", "so")
BINDS = ("all", "some")
LENGTHS = {"same": 3, "no": 1, "not": 2, "and": 3, "or": 3, "so": 3, "all": 3, "some": 3}


def is_saying(ground, thing):
    """Whether a thing, whatever it is, is a saying of the ground."""
    return _is_within(ground, thing, ())


def is_body(ground, kind, thing):
    """Whether a thing is a body of a kind of the ground, whatever both are."""
    return ground.is_kind(kind) and _is_within(ground, thing, (kind,))


def _is_within(ground, thing, around):
    """Whether a thing is a saying where all and some of these kinds stand around, the nearest first."""
    if not isinstance(thing, tuple) or len(thing) == 0 or not isinstance(thing[0], str):
        return False
    word = thing[0]
    if LENGTHS.get(word) != len(thing):
        return False
    if word == "same":
        kind = kind_within(ground, thing[1], around)
        return kind is not None and kind == kind_within(ground, thing[2], around)
    if word in BINDS:
        return ground.is_kind(thing[1]) and _is_within(ground, thing[2], (thing[1],) + around)
    return all(_is_within(ground, part, around) for part in thing[1:])


def opened(body, term):
    """The saying with a term for what is meant in a body."""
    return _changed(body, 0, lambda leaf, deep: term if leaf == ("bound", deep) else leaf)


def shut(saying, x, kind):
    """The body with what is meant for a name."""
    return _changed(saying, 0, lambda leaf, deep: ("bound", deep) if leaf == ("name", x, kind) else leaf)


def put_in(saying, x, kind, term):
    """The saying with a term in all places of a name."""
    return _changed(saying, 0, lambda leaf, deep: term if leaf == ("name", x, kind) else leaf)


def _changed(thing, deep, change):
    """A term or saying with all that has no parts changed, told how many all and some stand around."""
    word = thing[0]
    if word in ("name", "bound"):
        return change(thing, deep)
    if word == "made":
        return ("made", thing[1], tuple([_changed(part, deep, change) for part in thing[2]]))
    if word in BINDS:
        return (word, thing[1], _changed(thing[2], deep + 1, change))
    return (word,) + tuple([_changed(part, deep, change) for part in thing[1:]])


def free_in(sayings):
    """The free names in a list of sayings, with their kinds, sorted, each once."""
    found = {}
    for saying in sayings:
        note_names(saying, found)
    return sorted(found)
