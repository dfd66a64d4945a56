"""The rules of makers and works: what a step by each of them holds.

Each is put to the ground, to what the used steps hold, and to what stands in brackets, of these as many as are due.
"""

from goalsmith.givens import is_free_in, less, need, parts_of, together
from goalsmith.names import is_name, is_whole
from goalsmith.rights import filled_right
from goalsmith.sayings import is_body_to, is_saying_to, opened
from goalsmith.terms import MOST_SIGNS_HELD, is_term_to


def by_equation(ground, used, told):
    """t = the right for it."""
    term = told[0]
    need(is_term_to(ground, term, MOST_SIGNS_HELD), "a term of the ground is due in brackets")
    need(has_right(ground, term), "the term has a right")
    return (), ("same", term, filled_right(ground, term))


def has_right(ground, term):
    """Whether a term is made by a plain work, or by a falling one with a term made by a maker at its place."""
    if term[0] != "made" or not ground.is_work(term[1]) or ground.is_open(term[1]):
        return False
    at = ground.falls_at(term[1])
    return at is None or is_by_maker(ground, term[2][at])


def is_by_maker(ground, term):
    """Whether a term is made by a maker."""
    return term[0] == "made" and ground.is_maker(term[1])


def _sides_by_makers(ground, saying):
    one, other = parts_of(saying, "same")
    need(is_by_maker(ground, one) and is_by_maker(ground, other), "both sides are made by makers")
    return one, other


def by_unlike(ground, used, told):
    """C, of s = t, made by unlike makers."""
    given, saying = used[0]
    one, other = _sides_by_makers(ground, saying)
    need(one[1] != other[1], "the makers are unlike")
    need(is_saying_to(ground, told[0], MOST_SIGNS_HELD), "a saying of the ground is due in brackets")
    return given, told[0]


def by_part(ground, used, told):
    """The parts with a number are the same, of s = t, made by one maker."""
    given, saying = used[0]
    one, other = _sides_by_makers(ground, saying)
    need(one[1] == other[1], "the makers are one")
    place = told[0]
    need(is_whole(place) and 0 <= place < len(one[2]), "there is a part with this number")
    return given, ("same", one[2][place], other[2][place])


def by_down(ground, used, told):
    """All kind body, of the body opened by each maker, which may be given the body opened by what the maker takes."""
    kind, body, names = told
    need(ground.is_kind(kind) and not ground.is_open(kind), "a told kind is due in brackets")
    need(is_body_to(ground, kind, body, MOST_SIGNS_HELD), "a body of the kind is due in brackets")
    makers = ground.makers(kind)
    need(len(used) == len(makers), "there is a step for each maker")
    need(isinstance(names, tuple) and len(names) == len(makers), "there are names for each maker")
    given = ()
    for f, xs, step in zip(makers, names, used):
        parts = _names_taken(ground, f, xs)
        given = together(given, _left_given(ground, kind, body, ("made", f, parts), step))
    return given, ("all", kind, body)


def _names_taken(ground, f, xs):
    """Names for what a maker takes, with their kinds."""
    takes = ground.takes(f)
    need(isinstance(xs, tuple) and len(xs) == len(takes), "there is a name for each thing that the maker takes")
    need(all(is_name(x) for x in xs), "names are due in brackets")
    need(len(set(xs)) == len(xs), "the names are unlike")
    return tuple([("name", x, kind) for x, kind in zip(xs, takes)])


def _left_given(ground, kind, body, made, step):
    """What stays given of a step that holds the body opened by a maker of names."""
    given, saying = step
    need(saying == opened(body, made), "the step holds the body opened by the maker of its names")
    for part in made[2]:
        if part[2] == kind:
            given = less(given, opened(body, part))
    for _, x, taken in made[2]:
        need(not is_free_in(x, taken, (body,) + given), "a name is free nowhere else")
    return given


MAKING = {
    "equation": by_equation,
    "unlike": by_unlike,
    "part": by_part,
    "down": by_down,
}
