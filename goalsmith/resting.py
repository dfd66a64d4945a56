"""Rewriting: terms led to rest by rules, and goals by it."""

from goalsmith.errors import NoRewrite, NoRule, TooFar
from goalsmith.greatest import greatest_parts, with_greatest
from goalsmith.matching import filled, fitting
from goalsmith.names import is_whole
from goalsmith.places import has_place, part_at, parts_with_places, put_at
from goalsmith.sayings import opened
from goalsmith.sources import equation_of, given_with, rules_of
from goalsmith.terms import is_great, is_term, is_too_great
from goalsmith.ways import Way, demand
from goalsmith.workers import Worker


def rewrites(ground, rules, term):
    """All rewrites of a term by these rules, sorted."""
    found = []
    # The places are sorted, and at each of them the rules are looked at in order.
    for place, part in parts_with_places(term):
        found.extend([(place, k, parts) for k, parts in _fitting_rules(ground, rules, part)])
    return found


def _fitting_rules(ground, rules, part):
    """The number of each rule that fits, with what it fits with."""
    found = []
    for k, rule in enumerate(rules):
        parts = fitting(ground, rule, part)
        if parts is not None:
            found.append((k, parts))
    return found


def rewritten(ground, rules, term, rewrite):
    """What a rewrite makes of a term; NoRewrite where it is none of it, whatever it is."""
    if not _is_rewrite(ground, rules, term, rewrite):
        raise NoRewrite("this is no rewrite of the term by these rules")
    return _after(rules, term, rewrite)


def _is_rewrite(ground, rules, term, thing):
    if not isinstance(thing, tuple) or len(thing) != 3:
        return False
    place, k, parts = thing
    if not isinstance(place, tuple) or not all(is_whole(at) for at in place) or not has_place(term, place):
        return False
    if not is_whole(k) or not 0 <= k < len(rules) or not isinstance(parts, tuple):
        return False
    if fitting(ground, rules[k], part_at(term, place)) != parts:
        return False
    # A thing may say of itself that it is the same as any other.
    return all(part is None or is_term(ground, part) for part in parts)


def _after(rules, term, rewrite):
    place, k, parts = rewrite
    return put_at(term, place, filled(rules[k][2], parts))


def to_rest(ground, rules, term, most=100):
    """The rewrites from a term to a rest form, each at the last place, there by the first rule that fits."""
    told, _ = led_to_rest(ground, rules, term, most)
    return told


def led_to_rest(ground, rules, term, most):
    """The rewrites from a term to a rest form, and this."""
    told = []
    here = term
    rewrite = _last_rewrite(ground, rules, here, ())
    while rewrite is not None:
        if len(told) >= most:
            raise TooFar("more would be rewritten than may be")
        here = _after(rules, here, rewrite)
        if is_great(here):
            raise TooFar("a term that is great would come")
        told.append(rewrite)
        rewrite = _next_rewrite(ground, rules, here, rewrite[0])
    return told, here


def _last_rewrite(ground, rules, term, place):
    """The rewrite of what stands at a place, at the last place in it at which there is one, or None."""
    if term[0] != "made":
        return None
    found = _last_in_parts(ground, rules, term[2], place)
    return _rewrite_at(ground, rules, term, place) if found is None else found


def _last_in_parts(ground, rules, parts, place):
    """The rewrite at the last place in these first parts of what stands at a place, or None."""
    for at in reversed(range(len(parts))):
        found = _last_rewrite(ground, rules, parts[at], place + (at,))
        if found is not None:
            return found
    return None


def _rewrite_at(ground, rules, term, place):
    """The rewrite of what stands at a place, just there, or None."""
    for k, rule in enumerate(rules):
        parts = fitting(ground, rule, term)
        if parts is not None:
            return (place, k, parts)
    return None


def _next_rewrite(ground, rules, term, place):
    """The rewrite of a term at the last place at which there is one, or None, where just this place was rewritten.

    Behind the place, but for what stands in it, there was none, and there is none now.
    """
    found = _last_rewrite(ground, rules, part_at(term, place), place)
    while found is None and place:
        at = place[-1]
        place = place[:-1]
        around = part_at(term, place)
        found = _last_in_parts(ground, rules, around[2][:at], place)
        if found is None:
            found = _rewrite_at(ground, rules, around, place)
    return found


def at_rest(kernel, sources, term, most=100):
    """The held thing that a term and its rest form, by the rules of these sources, are the same."""
    ground = kernel.ground()
    rules = rules_of(ground, sources)
    told, rest = led_to_rest(ground, rules, term, most)
    way = Way(ground, ((), ("same", term, rest)))
    try:
        number = _same_at_rest(way, sources, rules, term, (told, rest))
    except NoRule:
        raise TooFar("what would be held is too great")
    _, paper = way.ended(number)
    return kernel.by_paper(paper, [])


def _same_at_rest(way, sources, rules, term, end):
    """Write that a term and the rest form to which these rewrites lead are the same; the step's number."""
    told, rest = end
    sides = _sides(rules, term, told)
    if told and is_too_great(("same", term, term)):
        return _same_by_contrary(way, sources, rules, told, sides, ("same", term, rest))
    pairs = [(("same", term, side), ("same", term, after)) for side, after in sides]
    return _put_one_by_one(way, sources, rules, told, way.step("alike", (), term), pairs)


def _same_by_contrary(way, sources, rules, told, sides, same):
    """The same, without a step that says of the term that it is itself."""
    _, _, rest = same
    pairs = [(("not", ("same", side, rest)), ("not", ("same", after, rest))) for side, after in sides]
    number = _put_one_by_one(way, sources, rules, told, way.taken(("not", same)), pairs)
    return way.step("back", (way.step("clash", (way.step("alike", (), rest), number)),), same)


def _sides(rules, term, told):
    """For each rewrite the term ahead of it, with what is rewritten as what is meant, and the term that comes of it."""
    sides = []
    here = term
    for rewrite in told:
        side = put_at(here, rewrite[0], ("bound", 0))
        here = _after(rules, here, rewrite)
        sides.append((side, here))
    return sides


def _put_one_by_one(way, sources, rules, told, start, pairs):
    """Write how each rewrite leads, by a body, to a saying, of pairs of these; the number of the last step."""
    number = start
    for (_, k, parts), (body, saying) in zip(told, pairs):
        number = way.put_known(equation_of(way, sources[k], rules[k], parts), number, body, saying)
    return number


class Rewrite(Worker):
    """Any saying, by that of the rest forms of what stands in it."""

    STEADY = True

    def __init__(self, sources, most=100):
        self._sources = list(sources)
        self._most = most

    def work(self, ground, goal):
        """The goals that are left, and the way back from these to the goal."""
        return super().work(ground, goal)

    def turned(self, way):
        """The saying that comes; nothing where that is t = t."""
        ground = way.ground()
        rules = rules_of(ground, self._sources)
        parts = greatest_parts(way.saying())
        ends = [led_to_rest(ground, rules, part, self._most) for part in parts]
        demand(any(told for told, _ in ends), "nothing is rewritten")
        for told, _ in ends:
            for _, k, _ in told:
                demand(_is_all_in(given_with(self._sources[k]), way.given()), "what goes with a rule is not given")
        sides = [rest for _, rest in ends]
        number = _ahead(way, with_greatest(way.saying(), _exchange(parts, sides)))
        for at, (told, rest) in enumerate(ends):
            if told:
                same = way.turned_round(_same_at_rest(way, self._sources, rules, parts[at], ends[at]))
                body = with_greatest(way.saying(), _exchange(parts, sides, at))
                sides[at] = parts[at]
                number = way.put_known(same, number, body, opened(body, parts[at]))
        return number


def _is_all_in(given, more):
    return all(saying in more for saying in given)


def _ahead(way, saying):
    """The step from which a way goes back: the goal that comes, or t = t."""
    if saying[0] == "same" and saying[1] == saying[2]:
        return way.step("alike", (), saying[1])
    return way.left(saying, [])


def _exchange(parts, sides, meant=None):
    """What makes of each of these parts its side; of one of them, with a told number, what is meant."""
    def exchanged(part, deep):
        at = parts.index(part)
        return ("bound", deep) if at == meant else sides[at]
    return exchanged
