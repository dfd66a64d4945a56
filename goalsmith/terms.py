"""Terms of a ground; how many signs terms and sayings have, and how deep they are."""

from goalsmith.names import is_name, is_whole

MOST_SIGNS = 200
MOST_DEEP = 40
MOST_SIGNS_HELD = 1000
MOST_DEEP_HELD = 60


def is_term(ground, thing):
    """Whether a thing, whatever it is, is a term of the ground without bound ones."""
    return kind_within(ground, thing, ()) is not None


def kind_within(ground, thing, around):
    """The kind of a term within what binds these kinds, the nearest first; None where a thing is no term there."""
    if not isinstance(thing, tuple) or len(thing) not in (2, 3) or not isinstance(thing[0], str):
        return None
    if thing[0] == "name" and len(thing) == 3:
        return thing[2] if is_name(thing[1]) and ground.is_kind(thing[2]) else None
    if thing[0] == "bound" and len(thing) == 2:
        return around[thing[1]] if is_whole(thing[1]) and 0 <= thing[1] < len(around) else None
    if thing[0] == "made" and len(thing) == 3:
        return _kind_made(ground, thing[1], thing[2], around)
    return None


def _kind_made(ground, f, parts, around):
    told = ground.takes_and_gives(f)
    if told is None:
        return None
    takes, gives = told
    if not isinstance(parts, tuple) or len(parts) != len(takes):
        return None
    for part, kind in zip(parts, takes):
        if kind_within(ground, part, around) != kind:
            return None
    return gives


def kind_of(ground, term):
    """The kind of a term without bound ones."""
    return term[2] if term[0] == "name" else ground.gives(term[1])


def inner_of(thing):
    """The terms and sayings that stand straight within a term or a saying, from the left."""
    if thing[0] in ("name", "bound", "no"):
        return ()
    if thing[0] == "made":
        return thing[2]
    if thing[0] in ("all", "some"):
        return thing[2:]
    return thing[1:]


def signs_of(thing):
    """How many signs a term or a saying has."""
    many = 1
    for inner in inner_of(thing):
        many += signs_of(inner)
    return many


def depth_of(thing):
    """How many tuples of a term or a saying stand one within another."""
    deepest = 0
    for inner in inner_of(thing):
        deepest = max(deepest, depth_of(inner))
    return deepest + 1


def is_great(thing):
    """Whether a term or a saying is great."""
    return signs_of(thing) > MOST_SIGNS or depth_of(thing) > MOST_DEEP


def is_too_great(thing):
    """Whether a term or a saying is too great."""
    return signs_of(thing) > MOST_SIGNS_HELD or depth_of(thing) > MOST_DEEP_HELD


def has_more_signs(thing, most):
    """Whether a thing, whatever it is, has more tuples than a term or saying of so many signs may have.

    One tuple may stand in many places: walking through them all could take for ever, so the first ones are counted.
    """
    left = [thing]
    # With each maker or work stands a tuple of its parts.
    room = 2 * most
    while left and room >= 0:
        one = left.pop()
        if isinstance(one, tuple):
            room -= 1
            left.extend(one)
    return room < 0


def names_of(term):
    """The names in a term, with their kinds, sorted, each once."""
    found = {}
    note_names(term, found)
    return sorted(found)


def note_names(thing, found):
    """Put the names in a term or a saying, with their kinds, as keys into a dict."""
    if thing[0] == "name":
        found[thing[1], thing[2]] = True
    for inner in inner_of(thing):
        note_names(inner, found)
