"""Steps of papers: their form, and what each holds."""

from goalsmith.binding import BINDING
from goalsmith.givens import need
from goalsmith.goals import is_goal
from goalsmith.joining import JOINING
from goalsmith.making import MAKING
from goalsmith.names import is_whole
from goalsmith.terms import is_too_great

MOST_GIVEN = 60

# For each rule how many steps it uses, and how many things stand in brackets; of down the makers tell how many.
COUNTS = {
    "lent": (0, 1),
    "take": (0, 1),
    "more": (1, 1),
    "both": (2, 0),
    "left": (1, 0),
    "right": (1, 0),
    "first": (1, 1),
    "second": (1, 1),
    "either": (3, 0),
    "so": (1, 1),
    "use": (2, 0),
    "clash": (2, 0),
    "deny": (1, 1),
    "any": (1, 1),
    "back": (1, 1),
    "each": (1, 2),
    "at": (1, 1),
    "there": (1, 3),
    "name": (2, 1),
    "alike": (0, 1),
    "put": (2, 2),
    "equation": (0, 1),
    "unlike": (1, 1),
    "part": (1, 1),
    "down": (None, 3),
}


def need_step(thing, at):
    """A thing, whatever it is, must have the form of a step with this number."""
    need(isinstance(thing, tuple) and len(thing) == 3, "a step is a tuple of three")
    rule, uses, told = thing
    need(isinstance(rule, str) and rule in COUNTS, "there is no such rule")
    need(isinstance(uses, tuple) and isinstance(told, tuple), "what is used, and what is in brackets, are tuples")
    many_used, many_told = COUNTS[rule]
    need(many_used is None or len(uses) == many_used, "the rule uses more or fewer steps")
    need(len(told) == many_told, "more or fewer things are due in brackets")
    for use in uses:
        need(is_whole(use) and 0 <= use < at, "the steps that are used are earlier")


def lent_goal(ground, lent, told):
    """The goal lent with the number told in brackets."""
    number = told[0]
    need(is_whole(number) and 0 <= number < len(lent), "there is no goal lent with this number")
    need(is_goal(ground, lent[number]), "what is lent is a goal")
    return lent[number]


def held_by(ground, rule, used, told):
    """What a step by a rule other than lent holds, of what the used steps hold and what stands in brackets."""
    if rule in JOINING:
        act = JOINING[rule]
    elif rule in BINDING:
        act = BINDING[rule]
    else:
        act = MAKING[rule]
    given, saying = act(ground, used, told)
    need_room(given, saying)
    return given, saying


def need_room(given, saying):
    """What a step holds must not be too great, and no more be given than may be."""
    need(not is_too_great(saying), "what is held is not too great")
    need(len(given) <= MOST_GIVEN, "at most sixty sayings are given")
