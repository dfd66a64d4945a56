"""Meets of rules, and whether all of them come together."""

from goalsmith.matching import filled
from goalsmith.names import first_name
from goalsmith.places import parts_with_places, put_at
from goalsmith.resting import led_to_rest
from goalsmith.terms import inner_of, note_names


def meets(ground, rules):
    """The meets of these rules, each two of them and each with itself: tuples of a term and of its two sides."""
    barred = _names_in(rules)
    found = []
    for one_at, one in enumerate(rules):
        for place, part in parts_with_places(one[1]):
            for other_at, other in enumerate(rules):
                # A rule on the whole of its own left is no meet; nothing meets what no maker or work made.
                if part[0] == "made" and (place or one_at != other_at):
                    found.extend(_meets_at(one, place, part, other, barred))
    return found


def _names_in(rules):
    """All names that stand in rules, as keys of a dict."""
    found = {}
    for _, left, right in rules:
        note_names(left, found)
        note_names(right, found)
    return {x: True for x, _ in found}


def _meets_at(one, place, part, other, barred):
    """The meet of two rules at a place of the one's left, or none."""
    kinds, left, right = one
    more, other_left, other_right = other
    # The other's bound ones are numbered behind the one's.
    apart = tuple([("bound", len(kinds) + k) for k in range(len(more))])
    puts = [None for _ in kinds + more]
    if not _are_led_together(part, filled(other_left, apart), puts):
        return []
    parts = _parts_put(kinds + more, puts, barred)
    term = filled(left, parts)
    return [(term, filled(right, parts), put_at(term, place, filled(filled(other_right, apart), parts)))]


def _are_led_together(one, other, puts):
    """Whether some terms for the bound ones make both the same; what is put for each is noted, as little as may be."""
    one = _led(one, puts)
    other = _led(other, puts)
    if one == other:
        return True
    if one[0] == "bound":
        return _is_put(one, other, puts)
    if other[0] == "bound":
        return _is_put(other, one, puts)
    if one[0] == "name" or other[0] == "name" or one[1] != other[1]:
        return False
    for part, mate in zip(one[2], other[2]):
        if not _are_led_together(part, mate, puts):
            return False
    return True


def _led(term, puts):
    """What is put for a bound one, and for that which is put, and so on."""
    here = term
    while here[0] == "bound" and puts[here[1]] is not None:
        here = puts[here[1]]
    return here


def _is_put(bound, term, puts):
    """Put a term for a bound one, which must not stand in it."""
    if _stands_in(bound, term, puts):
        return False
    puts[bound[1]] = term
    return True


def _stands_in(bound, term, puts):
    here = _led(term, puts)
    return here == bound or any(_stands_in(bound, part, puts) for part in inner_of(here))


def _parts_put(kinds, puts, barred):
    """The terms for all bound ones; each that is left is put as a name of its own."""
    taken = dict(barred)
    for k, kind in enumerate(kinds):
        if puts[k] is None:
            x = first_name(taken)
            taken[x] = True
            puts[k] = ("name", x, kind)
    return [_all_put(term, puts) for term in puts]


def _all_put(term, puts):
    here = _led(term, puts)
    if here[0] != "made":
        return here
    return ("made", here[1], tuple([_all_put(part, puts) for part in here[2]]))


def come_together(ground, rules, most=100):
    """Whether both sides of each meet have one rest form; if not, a term with two."""
    for term, one, other in meets(ground, rules):
        if one != other:
            _, rest = led_to_rest(ground, rules, one, most)
            _, other_rest = led_to_rest(ground, rules, other, most)
            if rest != other_rest:
                return ("two", term, rest, other_rest)
    return ("one",)
