"""What terms are worth."""

from goalsmith.errors import NoData, TooFar
from goalsmith.rights import MADE, TAKEN, right_of
from goalsmith.terms import MOST_DEEP, MOST_SIGNS, is_term


def worth(ground, term, most=1000):
    """The data that a term is worth, found with at most so many puttings in."""
    if not is_term(ground, term) or not _is_reckoned(ground, term):
        raise NoData("only a term without names and open works is worth a data")
    reckoner = Reckoner(ground, most)
    return reckoner.worth_of(term)


def _is_reckoned(ground, term):
    if term[0] != "made" or ground.is_open(term[1]):
        return False
    for part in term[2]:
        if not _is_reckoned(ground, part):
            return False
    return True


class Worth:
    """A data with the worths of its parts, its signs and its depth, so that these are not looked for anew."""

    def __init__(self, maker, parts):
        self.maker = maker
        self.parts = parts
        signs = 1
        deep = 0
        for part in parts:
            signs += part.signs
            deep = max(deep, part.deep)
        self.signs = signs
        self.deep = deep + 1
        if self.signs > MOST_SIGNS or self.deep > MOST_DEEP:
            raise TooFar("a worth would be great")
        self.data = ("made", maker, tuple([part.data for part in parts]))


class Reckoner:
    """Reckons terms by steps: for each name, maker and work in a term one, behind those of its parts; then an end.

    A step is a tuple of a word, what it names (a name by its place among what is put in) and how many parts it takes.
    """

    def __init__(self, ground, most):
        self._ground = ground
        self._left = most
        self._steps_of_rights = {}

    def worth_of(self, term):
        """The worth of a term of makers and works that are not open."""
        steps = self._steps_of(term, {})
        at = 0
        puts = []
        found = []
        # What waits stands in a list, for works may go down deeper than Python's own calls may.
        waiting = []
        while steps:
            word, x, many = steps[at]
            at += 1
            if word == "name":
                found.append(puts[x])
            elif word == "end":
                steps, at, puts = waiting.pop() if waiting else ((), 0, [])
            else:
                first = len(found) - many
                parts = found[first:]
                del found[first:]
                if word == "maker":
                    found.append(Worth(x, parts))
                else:
                    waiting.append((steps, at, puts))
                    steps, puts = self._put_in(x, parts)
                    at = 0
        return found[0].data

    def _put_in(self, f, parts):
        """The steps of the right for these parts, with what is put in for its names."""
        if self._left <= 0:
            raise TooFar("more would be put in than may be")
        self._left -= 1
        at = self._ground.falls_at(f)
        maker = None if at is None else parts[at].maker
        if (f, maker) not in self._steps_of_rights:
            self._steps_of_rights[f, maker] = self._steps_of_right(f, maker)
        inner = [] if at is None else parts[at].parts
        return self._steps_of_rights[f, maker], parts + inner

    def _steps_of_right(self, f, maker):
        # What the maker takes stands behind what the work takes.
        row = TAKEN[:len(self._ground.takes(f))] + MADE
        return self._steps_of(right_of(self._ground, f, maker), {x: place for place, x in enumerate(row)})

    def _steps_of(self, term, places):
        steps = []
        self._note_steps(term, places, steps)
        steps.append(("end", None, 0))
        return steps

    def _note_steps(self, term, places, steps):
        if term[0] == "name":
            steps.append(("name", places[term[1]], 0))
            return
        for part in term[2]:
            self._note_steps(part, places, steps)
        word = "maker" if self._ground.is_maker(term[1]) else "work"
        steps.append((word, term[1], len(term[2])))
