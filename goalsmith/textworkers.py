"""Workers that only works' texts name."""

from goalsmith.errors import Fails
from goalsmith.plainworkers import Put
from goalsmith.terms import kind_of
from goalsmith.ways import demand
from goalsmith.workers import Worker


class PutAt(Worker):
    """A saying in which t stands, where s = t is given."""

    STEADY = True

    def __init__(self, number, place):
        self._number = number
        self._place = place

    def turned(self, way):
        """The saying with s at one of the places at which t stands, told by its number from the left."""
        same = way.given_at(self._number)
        demand(same[0] == "same", "this given saying is not of a same")
        _, one, other = same
        places = _places_of(way.saying(), other, ())
        demand(self._place < len(places), "the second side does not stand at so many places")
        body = _meant_at(way.saying(), places[self._place], 0)
        put = Put(self._number, kind_of(way.ground(), one), body)
        return put.turned(way)


def _places_of(thing, term, place):
    """All places at which a term stands in a saying or a term, from the left: tuples of places in tuples."""
    if thing == term:
        return [place]
    if not isinstance(thing, tuple):
        return []
    found = []
    for at, inner in enumerate(thing):
        found.extend(_places_of(inner, term, place + (at,)))
    return found


def _meant_at(thing, place, deep):
    """A saying or a term with what is meant at a place, where so many all and some stand around."""
    if not place:
        return ("bound", deep)
    at = place[0]
    deeper = deep + 1 if thing[0] in ("all", "some") else deep
    return thing[:at] + (_meant_at(thing[at], place[1:], deeper),) + thing[at + 1:]


class Use(Worker):
    """Any saying, by way of a held one."""

    STEADY = True

    def __init__(self, held, terms):
        self._held = held
        self._terms = list(terms)

    def turned(self, way):
        """S, what the held thing says of these terms."""
        if self._held.lent():
            raise Fails("goals are lent to what is held")
        demand(all(saying in way.given() for saying in self._held.given()), "what goes with what is held is not given")
        number = way.opened_by(way.embedded(self._held), self._terms)
        _, saying = way.held_at(number)
        return way.leaned(way.left_with([saying]), saying, number)
