"""Places in terms: tuples of numbers of parts, from the whole on."""


def parts_with_places(term, place=()):
    """All parts of a term, itself too, each as a tuple (place, part), sorted by place."""
    found = [(place, term)]
    if term[0] == "made":
        for at, part in enumerate(term[2]):
            found.extend(parts_with_places(part, place + (at,)))
    return found


def part_at(term, place):
    """The part of a term at one of its places."""
    part = term
    for at in place:
        part = part[2][at]
    return part


def has_place(term, place):
    """Whether a tuple of whole numbers is a place of a term."""
    part = term
    for at in place:
        if part[0] != "made" or not 0 <= at < len(part[2]):
            return False
        part = part[2][at]
    return True


def put_at(term, place, part):
    """A term with another part at one of its places."""
    if not place:
        return part
    _, f, parts = term
    at = place[0]
    return ("made", f, parts[:at] + (put_at(parts[at], place[1:], part),) + parts[at + 1:])
