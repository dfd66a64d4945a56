"""What terms are worth."""

from goalsmith.errors import NoData, TooFar
from goalsmith.rights import right_for
from goalsmith.terms import MOST_DEEP, MOST_SIGNS, depth_of, is_term, signs_of


def worth(ground, term, most=1000):
    """The data that a term is worth, found with at most so many puttings in."""
    if not is_term(ground, term) or not _is_reckoned(ground, term):
        raise NoData("only a term without names and open works is worth a data")
    reckoner = Reckoner(ground, most)
    return reckoner.worth_of(term)


def _is_reckoned(ground, term):
    if term[0] != "made" or ground.is_open(term[1]):
        return False
    return all(_is_reckoned(ground, part) for part in term[2])


class Worth:
    """A data with its signs and its depth, so that these are not counted anew at each maker."""

    def __init__(self, data, signs, deep):
        self.data = data
        self.signs = signs
        self.deep = deep


class Frame:
    """A term that is being reckoned, with the worths of the names in it."""

    def __init__(self, term, worths):
        self._steps = []
        _note_steps(term, self._steps)
        self._at = 0
        self._worths = worths

    def is_done(self):
        """Whether all steps are done."""
        return self._at == len(self._steps)

    def next_step(self):
        """The next step; it counts as done."""
        self._at += 1
        return self._steps[self._at - 1]

    def worth_of(self, x):
        """The worth that was put in for a name."""
        return self._worths[x]


def _note_steps(term, steps):
    """Each name, maker and work of a term, behind its parts."""
    if term[0] == "made":
        for part in term[2]:
            _note_steps(part, steps)
    steps.append((term[0], term[1]))


class Reckoner:
    """Terms being reckoned, the one that waits for none last, and the worths found, from the left.

    The terms stand in a list, for works may go down deeper than Python's own calls may.
    """

    def __init__(self, ground, most):
        self._ground = ground
        self._left = most
        self._frames = []
        self._found = []

    def worth_of(self, term):
        """The worth of a term of makers and works that are not open."""
        self._frames.append(Frame(term, {}))
        while self._frames:
            frame = self._frames[-1]
            if frame.is_done():
                self._frames.pop()
            else:
                self._do(frame)
        return self._found.pop().data

    def _do(self, frame):
        word, x = frame.next_step()
        if word == "name":
            self._found.append(frame.worth_of(x))
            return
        parts = self._parts_found(len(self._ground.takes(x)))
        if self._ground.is_maker(x):
            self._found.append(_made(x, parts))
        else:
            self._put_in(x, parts)

    def _parts_found(self, many):
        at = len(self._found) - many
        parts = self._found[at:]
        del self._found[at:]
        return parts

    def _put_in(self, f, parts):
        if self._left <= 0:
            raise TooFar("more would be put in than may be")
        self._left -= 1
        right, puts = right_for(self._ground, f, [part.data for part in parts])
        self._frames.append(Frame(right, {x: _measured(puts[x]) for x in puts}))


def _made(f, parts):
    signs = 1 + sum([part.signs for part in parts])
    deep = 1 + max([part.deep for part in parts], default=0)
    if signs > MOST_SIGNS or deep > MOST_DEEP:
        raise TooFar("a worth would be great")
    return Worth(("made", f, tuple([part.data for part in parts])), signs, deep)


def _measured(data):
    return Worth(data, signs_of(data), depth_of(data))
