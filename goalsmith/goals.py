"""Goals, and new names for them."""

from goalsmith.errors import NoGoal
from goalsmith.givens import each_once
from goalsmith.names import is_name, text_at
from goalsmith.sayings import is_saying_within
from goalsmith.terms import MOST_DEEP, MOST_SIGNS, is_great, note_names, room_for

MOST_GIVEN = 20


def goal_of(ground, given, saying):
    """The goal of a list of given sayings and a saying, whatever these are."""
    if not isinstance(given, list):
        raise NoGoal("what is given is handed in as a list")
    need_sayings(ground, given + [saying])
    return goal_with(given, saying)


def need_sayings(ground, things):
    """Each of these things, whatever they are, must be a saying that may stand in a goal."""
    for thing in things:
        room = room_for(MOST_SIGNS)
        most = room[0]
        if not is_saying_within(ground, thing, (), room):
            raise NoGoal("a goal has sayings of the ground")
        # What has as few tuples as may stand one within another is not great.
        if most - room[0] > MOST_DEEP and is_great(thing):
            raise NoGoal("a goal has no sayings that are great")


def goal_with(given, saying):
    """The goal of a list of given sayings and a saying, each of which may stand in a goal."""
    told = each_once(given)
    if len(told) > MOST_GIVEN:
        raise NoGoal("at most twenty sayings are given in a goal")
    return (told, saying)


def is_goal(ground, thing):
    """Whether a thing, whatever it is, is a goal of the ground."""
    if not isinstance(thing, tuple) or len(thing) != 2 or not isinstance(thing[0], tuple):
        return False
    try:
        goal = goal_of(ground, list(thing[0]), thing[1])
    except NoGoal:
        return False
    return goal == thing


def new_names(goal, things, many):
    """The first so many names, of a, b, .. z, aa, .., that are free neither in a goal nor in these things."""
    given, saying = goal
    found = {}
    for thing in list(given) + [saying] + list(things):
        note_names(thing, found)
    taken = {x: True for x, _ in found}
    names = []
    place = 0
    while len(names) < many:
        text = text_at(place)
        if is_name(text) and text not in taken:
            names.append(text)
        place += 1
    return names
