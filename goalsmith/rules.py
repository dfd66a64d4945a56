"""Rules of rewriting: what works and held things make."""

from goalsmith.errors import NotFalling
from goalsmith.helds import Held
from goalsmith.order import is_greater
from goalsmith.rights import MADE, TAKEN, put_for_names
from goalsmith.sayings import is_saying


def work_rules(ground, f):
    """The rules of a work, one for each of its rights."""
    at = ground.falls_at(f)
    makers = [None] if at is None else ground.makers(ground.takes(f)[at])
    return [_work_rule(ground, f, maker, right) for maker, right in zip(makers, ground.rights(f))]


def _work_rule(ground, f, maker, right):
    parts = []
    names = []
    for at, name in enumerate(_names_taken(ground, f, TAKEN)):
        inner = [name]
        if maker is not None and at == ground.falls_at(f):
            inner = _names_taken(ground, maker, MADE)
            name = ("made", maker, tuple(inner))
        parts.append(name)
        names.extend(inner)
    bounds = {x: ("bound", k) for k, (_, x, _) in enumerate(names)}
    left = put_for_names(("made", f, tuple(parts)), bounds)
    return tuple([kind for _, _, kind in names]), left, put_for_names(right, bounds)


def _names_taken(ground, f, row):
    """Names for what a maker or a work takes."""
    return [("name", x, kind) for x, kind in zip(row, ground.takes(f))]


def held_rule(ground, held, turned=False):
    """The rule of a held thing that says of all that two terms are the same."""
    _need(isinstance(held, Held) and not held.lent(), "a rule is made of what is held with nothing lent")
    saying = held.saying()
    _need(is_saying(ground, saying), "a rule is made of terms of the ground")
    kinds = ()
    while saying[0] == "all":
        kinds = (saying[1],) + kinds
        saying = saying[2]
    _need(saying[0] == "same", "a rule is made of what says that two terms are the same")
    _, left, right = saying
    if turned:
        left, right = right, left
    _need(left[0] == "made", "a rule's left is made")
    # So no bound one stands in the right alone: what is greater than it has it, too.
    _need(is_greater(ground, left, right), "a rule's left is greater than its right")
    return kinds, left, right


def _need(holds, why):
    if not holds:
        raise NotFalling(why)
