"""What the tests of rewriting share."""

from goalsmith.grounds import Ground
from goalsmith.kernel import Kernel
from goalsmith.matching import filled, fitting
from goalsmith.rules import held_rule, work_rules
from tests.papersupport import bound, same
from tests.support import made, name

X, Y, Z = bound(0), bound(1), bound(2)
TREES = Ground(
    [("tree", [("leaf", []), ("tip", ["tree"]), ("fork", ["tree", "tree"])])],
    [
        ("dup", ["tree"], "tree", None, [made("fork", name("xa", "tree"), name("xa", "tree"))]),
        ("more", ["tree"], "tree", None, [made("fork", name("xa", "tree"), made("tip", name("xa", "tree")))]),
        ("up", ["tree"], "tree", None, [made("tip", made("tip", name("xa", "tree")))]),
        ("flip", ["tree"], "tree", 0, [
            made("leaf"),
            made("tip", made("flip", name("ya", "tree"))),
            made("fork", made("flip", name("yb", "tree")), made("flip", name("ya", "tree"))),
        ]),
    ],
)
LEAF = made("leaf")


def tips(many, leaf=LEAF):
    term = leaf
    for _ in range(many):
        term = made("tip", term)
    return term


def rules_of(ground, *fs):
    return [rule for f in fs for rule in work_rules(ground, f)]


def sources_of(ground, *fs):
    return [(f, k) for f in fs for k in range(len(ground.rights(f)))]


def alls(saying, *kinds):
    """The saying with an all for each of these kinds, the first one outermost."""
    for kind in reversed(kinds):
        saying = ("all", kind, saying)
    return saying


def taken(saying, ground):
    """A held thing of any saying, given itself."""
    return Kernel(ground).by_take(saying)


def taken_rule(ground, left, right, *kinds):
    """The rule of a saying of all of these kinds, the first one outermost, given itself."""
    return held_rule(ground, taken(alls(same(left, right), *kinds), ground))


# Rewriting once more, by plainer means.


def plain_places(term):
    found = [()]
    if term[0] == "made":
        for at, part in enumerate(term[2]):
            found += [(at,) + place for place in plain_places(part)]
    return found


def plain_at(term, place):
    return plain_at(term[2][place[0]], place[1:]) if place else term


def plain_put(term, place, part):
    if not place:
        return part
    parts = list(term[2])
    parts[place[0]] = plain_put(parts[place[0]], place[1:], part)
    return ("made", term[1], tuple(parts))


def plain_rewrites(ground, rules, term):
    found = []
    for place in plain_places(term):
        for k, rule in enumerate(rules):
            parts = fitting(ground, rule, plain_at(term, place))
            if parts is not None:
                found.append((place, k, parts))
    return sorted(found, key=lambda rewrite: rewrite[:2])


def plain_rewritten(rules, term, rewrite):
    place, k, parts = rewrite
    return plain_put(term, place, filled(rules[k][2], parts))


def plain_to_rest(ground, rules, term):
    """The rewrites to a rest form, and this."""
    told = []
    while plain_rewrites(ground, rules, term):
        found = plain_rewrites(ground, rules, term)
        last = max(rewrite[0] for rewrite in found)
        told.append([rewrite for rewrite in found if rewrite[0] == last][0])
        term = plain_rewritten(rules, term, told[-1])
    return told, term
