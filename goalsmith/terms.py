"""Terms of a ground; how many signs terms and sayings have, and how deep they are."""

from goalsmith.names import is_name, is_whole

MOST_SIGNS = 200
MOST_DEEP = 40
MOST_SIGNS_HELD = 1000
MOST_DEEP_HELD = 60
# More signs than anything has that is walked through.
NO_END = 1000000000000


def is_term(ground, thing):
    """Whether a thing, whatever it is, is a term of the ground without bound ones."""
    return is_term_to(ground, thing, NO_END)


def is_term_to(ground, thing, most):
    """Whether a thing is a term of the ground without bound ones, of no more tuples than so many signs may have."""
    return kind_within(ground, thing, (), room_for(most)) is not None


def room_for(most):
    """A list of how many tuples so many signs may have: one for each, and one of parts for each that is made.

    One tuple may stand in many places: walking through them all could take for ever, so who walks lessens the room.
    """
    return [2 * most]


def kind_within(ground, thing, around, room):
    """The kind of a term within what binds these kinds, the nearest first; None where a thing is no term there."""
    room[0] -= 1
    if room[0] < 0 or not isinstance(thing, tuple) or len(thing) == 0 or not isinstance(thing[0], str):
        return None
    word = thing[0]
    if word == "made" and len(thing) == 3:
        return _kind_made(ground, thing[1], thing[2], around, room)
    if word == "name" and len(thing) == 3:
        return thing[2] if is_name(thing[1]) and ground.is_kind(thing[2]) else None
    if word == "bound" and len(thing) == 2:
        return around[thing[1]] if is_whole(thing[1]) and 0 <= thing[1] < len(around) else None
    return None


def _kind_made(ground, f, parts, around, room):
    room[0] -= 1
    takes, gives = ground.takes_and_gives(f)
    if gives is None or room[0] < 0 or not isinstance(parts, tuple) or len(parts) != len(takes):
        return None
    # Many take nothing: for these no walk is begun.
    if parts:
        for part, kind in zip(parts, takes):
            if kind_within(ground, part, around, room) != kind:
                return None
    return gives


def kind_of(ground, term):
    """The kind of a term without bound ones."""
    return term[2] if term[0] == "name" else ground.gives(term[1])


def inner_of(thing):
    """The terms and sayings that stand straight within a term or a saying, from the left."""
    word = thing[0]
    if word == "made":
        return thing[2]
    if word in ("name", "bound", "no"):
        return ()
    if word in ("all", "some"):
        return thing[2:]
    return thing[1:]


def signs_of(thing):
    """How many signs a term or a saying has."""
    many = 1
    for inner in inner_of(thing):
        many += signs_of(inner)
    return many


def is_great(thing):
    """Whether a term or a saying is great."""
    return _has_more(thing, MOST_SIGNS, MOST_DEEP)


def is_too_great(thing):
    """Whether a term or a saying is too great."""
    return _has_more(thing, MOST_SIGNS_HELD, MOST_DEEP_HELD)


def _has_more(thing, most_signs, most_deep):
    """Whether a term or a saying has more signs than so many, or more of its tuples stand one within another."""
    # All that stands so deep, from the left: first the thing alone.
    level = [thing]
    signs = 0
    deep = 0
    while level:
        signs += len(level)
        deep += 1
        if signs > most_signs or deep > most_deep:
            return True
        level = [inner for one in level for inner in (one[2] if one[0] == "made" else inner_of(one))]
    return False


def names_of(term):
    """The names in a term, with their kinds, sorted, each once."""
    found = {}
    note_names(term, found)
    return sorted(found)


def note_names(thing, found):
    """Put the names in a term or a saying, with their kinds, as keys into a dict."""
    if thing[0] == "name":
        found[thing[1], thing[2]] = True
    for inner in inner_of(thing):
        note_names(inner, found)
