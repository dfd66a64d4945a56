"""Rewriting: terms led to rest by rules, and goals by it."""

from goalsmith.errors import NoRewrite, NoRule, TooFar
from goalsmith.greatest import greatest_parts, with_greatest
from goalsmith.matching import filled, fitting
from goalsmith.names import is_whole
from goalsmith.places import has_place, part_at, parts_with_places, put_at
from goalsmith.sources import equation_of, given_with, rules_of
from goalsmith.terms import is_great, is_term, is_too_great, kind_of
from goalsmith.ways import Way, demand
from goalsmith.workers import Worker


def rewrites(ground, rules, term):
    """All rewrites of a term by these rules, sorted."""
    found = []
    # The places are sorted, and at each of them the rules are looked at in order.
    for place, part in parts_with_places(term):
        found.extend([(place, k, parts) for k, parts in _fitting_rules(ground, rules, part)])
    return found


def _fitting_rules(ground, rules, part):
    """The number of each rule that fits, with what it fits with."""
    found = []
    for k, rule in enumerate(rules):
        parts = fitting(ground, rule, part)
        if parts is not None:
            found.append((k, parts))
    return found


def rewritten(ground, rules, term, rewrite):
    """What a rewrite makes of a term; NoRewrite where it is none of it, whatever it is."""
    if not _is_rewrite(ground, rules, term, rewrite):
        raise NoRewrite("this is no rewrite of the term by these rules")
    return _after(rules, term, rewrite)


def _is_rewrite(ground, rules, term, thing):
    if not isinstance(thing, tuple) or len(thing) != 3:
        return False
    place, k, parts = thing
    if not isinstance(place, tuple) or not all(is_whole(at) for at in place) or not has_place(term, place):
        return False
    if not is_whole(k) or not 0 <= k < len(rules) or not isinstance(parts, tuple):
        return False
    if fitting(ground, rules[k], part_at(term, place)) != parts:
        return False
    # A thing may say of itself that it is the same as any other.
    return all(part is None or is_term(ground, part) for part in parts)


def _after(rules, term, rewrite):
    place, k, parts = rewrite
    return put_at(term, place, filled(rules[k][2], parts))


def to_rest(ground, rules, term, most=100):
    """The rewrites from a term to a rest form, each at the last place, there by the first rule that fits."""
    told, _ = led_to_rest(ground, rules, term, most)
    return told


def led_to_rest(ground, rules, term, most):
    """The rewrites from a term to a rest form, and this."""
    told = []
    here = term
    rewrite = _last_rewrite(ground, rules, here, ())
    while rewrite is not None:
        if len(told) >= most:
            raise TooFar("more would be rewritten than may be")
        here = _after(rules, here, rewrite)
        if is_great(here):
            raise TooFar("a term that is great would come")
        told.append(rewrite)
        rewrite = _last_rewrite(ground, rules, here, ())
    return told, here


def _last_rewrite(ground, rules, term, place):
    """The rewrite of what stands at a place, at the last place in it at which there is one, or None."""
    if term[0] != "made":
        return None
    for at in reversed(range(len(term[2]))):
        found = _last_rewrite(ground, rules, term[2][at], place + (at,))
        if found is not None:
            return found
    for k, rule in enumerate(rules):
        parts = fitting(ground, rule, term)
        if parts is not None:
            return (place, k, parts)
    return None


def at_rest(kernel, sources, term, most=100):
    """The held thing that a term and its rest form, by the rules of these sources, are the same."""
    ground = kernel.ground()
    rules = rules_of(ground, sources)
    told, rest = led_to_rest(ground, rules, term, most)
    way = Way(ground, ((), ("same", term, rest)))
    try:
        number = _same_at_rest(way, sources, rules, term, (told, rest))
    except NoRule:
        raise TooFar("what would be held is too great")
    _, paper = way.ended(number)
    return kernel.by_paper(paper, [])


def _same_at_rest(way, sources, rules, term, end):
    """Write that a term and the rest form to which these rewrites lead are the same; the step's number."""
    told, rest = end
    sides = _sides(rules, term, told)
    if told and is_too_great(("same", term, term)):
        return _same_by_contrary(way, sources, rules, told, sides, ("same", term, rest))
    bodies = [("same", term, side) for side in sides]
    return _put_one_by_one(way, sources, rules, told, way.step("alike", (), term), bodies)


def _same_by_contrary(way, sources, rules, told, sides, same):
    """The same, without a step that says of the term that it is itself."""
    _, _, rest = same
    bodies = [("not", ("same", side, rest)) for side in sides]
    number = _put_one_by_one(way, sources, rules, told, way.taken(("not", same)), bodies)
    return way.step("back", (way.step("clash", (way.step("alike", (), rest), number)),), same)


def _sides(rules, term, told):
    """For each rewrite the term as it was ahead of it, with what is rewritten as what is meant."""
    sides = []
    here = term
    for rewrite in told:
        sides.append(put_at(here, rewrite[0], ("bound", 0)))
        here = _after(rules, here, rewrite)
    return sides


def _put_one_by_one(way, sources, rules, told, start, bodies):
    """Write how each rewrite leads from one of these bodies to the next; the number of the last step."""
    number = start
    for (_, k, parts), body in zip(told, bodies):
        equation = equation_of(way, sources[k], rules[k], parts)
        _, one, _ = way.held_at(equation)[1]
        number = way.step("put", (equation, number), kind_of(way.ground(), one), body)
    return number


class Rewrite(Worker):
    """Any saying, by that of the rest forms of what stands in it."""

    def __init__(self, sources, most=100):
        self._sources = list(sources)
        self._most = most

    def work(self, ground, goal):
        """The goals that are left, and the way back from these to the goal."""
        return super().work(ground, goal)

    def turned(self, way):
        """The saying that comes; nothing where that is t = t."""
        ground = way.ground()
        rules = rules_of(ground, self._sources)
        parts = greatest_parts(way.saying())
        ends = [led_to_rest(ground, rules, part, self._most) for part in parts]
        demand(any(told for told, _ in ends), "nothing is rewritten")
        for told, _ in ends:
            for _, k, _ in told:
                demand(_is_all_in(given_with(self._sources[k]), way.given()), "what goes with a rule is not given")
        sides = [rest for _, rest in ends]
        number = _ahead(way, with_greatest(way.saying(), _exchange(parts, sides)))
        for at, (told, rest) in enumerate(ends):
            if told:
                same = way.turned_round(_same_at_rest(way, self._sources, rules, parts[at], ends[at]))
                body = with_greatest(way.saying(), _exchange(parts, sides, at))
                sides[at] = parts[at]
                number = way.step("put", (same, number), kind_of(ground, rest), body)
        return number


def _is_all_in(given, more):
    return all(saying in more for saying in given)


def _ahead(way, saying):
    """The step from which a way goes back: the goal that comes, or t = t."""
    if saying[0] == "same" and saying[1] == saying[2]:
        return way.step("alike", (), saying[1])
    return way.left(saying, [])


def _exchange(parts, sides, meant=None):
    """What makes of each of these parts its side; of one of them, with a told number, what is meant."""
    def exchanged(part, deep):
        at = parts.index(part)
        return ("bound", deep) if at == meant else sides[at]
    return exchanged
