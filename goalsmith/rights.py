"""The rights of works: what may stand in them, and what is put in for their names."""

from goalsmith.terms import is_term, kind_of, names_of, signs_of

TAKEN = ("xa", "xb", "xc", "xd")
MADE = ("ya", "yb", "yc", "yd")
MOST_SIGNS_OF_A_RIGHT = 40


def is_right(ground, f, maker, thing):
    """Whether a thing is a right of the work f, told last in the ground, for a maker at its place (None if plain)."""
    if not is_term(ground, thing) or kind_of(ground, thing) != ground.gives(f):
        return False
    kinds = _kinds_of_names(ground, f, maker)
    if any(kinds.get(x) != kind for x, kind in names_of(thing)):
        return False
    return signs_of(thing) <= MOST_SIGNS_OF_A_RIGHT and _works_may_stand(ground, f, thing)


def _kinds_of_names(ground, f, maker):
    kinds = dict(zip(TAKEN, ground.takes(f)))
    if maker is not None:
        # The thing at the place is known only by its maker and that one's parts.
        del kinds[TAKEN[ground.falls_at(f)]]
        kinds.update(dict(zip(MADE, ground.takes(maker))))
    return kinds


def _works_may_stand(ground, f, term):
    if term[0] == "name":
        return True
    if term[1] == f and not _falls(ground, f, term[2]):
        return False
    if term[1] != f and ground.is_open(term[1]):
        return False
    return all(_works_may_stand(ground, f, part) for part in term[2])


def _falls(ground, f, parts):
    """Whether a work within its own right is put to a part of what it was put to itself."""
    at = ground.falls_at(f)
    return at is not None and parts[at][0] == "name" and parts[at][1] in MADE


def right_of(ground, f, maker):
    """A work's right for a maker at its place; None stands for it of a plain one."""
    if maker is None:
        return ground.rights(f)[0]
    makers = ground.makers(ground.takes(f)[ground.falls_at(f)])
    return ground.rights(f)[makers.index(maker)]


def filled_right(ground, term):
    """The right of a term, with its parts put in.

    It is made by a plain work, or by a falling one with a term made by a maker at its place.
    """
    _, f, parts = term
    puts = dict(zip(TAKEN, parts))
    at = ground.falls_at(f)
    maker = None
    if at is not None:
        _, maker, inner = parts[at]
        puts.update(dict(zip(MADE, inner)))
    return put_for_names(right_of(ground, f, maker), puts)


def put_for_names(term, puts):
    """A term without bound ones, with other terms put in for all its names, whatever their kinds."""
    if term[0] == "name":
        return puts[term[1]]
    return ("made", term[1], tuple([put_for_names(part, puts) for part in term[2]]))
