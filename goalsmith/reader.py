"""The small reader: it knows nothing but the rules."""

from goalsmith.errors import NoRule
from goalsmith.steps import held_by, lent_goal, need_step


def read_paper(ground, lent, paper):
    """What a paper, whatever it is, holds with these goals lent; or the number of its first wrong step."""
    if not isinstance(paper, list) or len(paper) == 0:
        return ("wrong", 0)
    held = []
    for step in paper:
        try:
            held.append(_read_step(ground, lent, step, held))
        except NoRule:
            return ("wrong", len(held))
    given, saying = held[-1]
    return ("held", given, saying)


def _read_step(ground, lent, step, held):
    need_step(step, len(held))
    rule, uses, told = step
    if rule == "lent":
        return lent_goal(ground, lent, told)
    return held_by(ground, rule, [held[use] for use in uses], told)
