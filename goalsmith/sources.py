"""Sources of rules: rights of works, and held things; and how a source tells that what is rewritten is the same."""

from goalsmith.errors import NotFalling
from goalsmith.helds import Held
from goalsmith.matching import filled
from goalsmith.names import is_whole
from goalsmith.rules import held_rule, work_rules


def rules_of(ground, sources):
    """The rule of each source."""
    return [_rule_of(ground, source) for source in sources]


def _rule_of(ground, source):
    if not isinstance(source, tuple) or len(source) != 2:
        raise NotFalling("a source is a tuple of two")
    one, other = source
    if isinstance(one, Held):
        return held_rule(ground, one, other)
    if not ground.is_work(one) or not is_whole(other) or not 0 <= other < len(ground.rights(one)):
        raise NotFalling("there is no such right")
    return work_rules(ground, one)[other]


def given_with(source):
    """What goes with the rule of a source."""
    return source[0].given() if isinstance(source[0], Held) else ()


def equation_of(way, source, rule, parts):
    """Write that a rule's left, filled with these parts, is its right, as its source tells it; the step's number."""
    kinds, left, _ = rule
    if not isinstance(source[0], Held):
        return way.step("equation", (), filled(left, parts))
    held, turned = source
    # What stands in no side may be anything. The parts are numbered from the innermost all on.
    terms = [("name", "a", kind) if part is None else part for kind, part in zip(kinds, parts)]
    number = way.opened_by(way.embedded(held), terms[::-1])
    return way.turned_round(number) if turned else number
