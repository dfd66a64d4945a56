"""Data: terms in which makers alone stand; all of a kind, to a size."""

from goalsmith.errors import NoData, TooMany
from goalsmith.terms import is_term, signs_of

MOST_TOLD = 2000


def is_data(ground, thing):
    """Whether a thing, whatever it is, is a data of the ground."""
    return is_term(ground, thing) and _is_made_by_makers(ground, thing)


def _is_made_by_makers(ground, term):
    if term[0] != "made" or not ground.is_maker(term[1]):
        return False
    return all(_is_made_by_makers(ground, part) for part in term[2])


def size_of(data):
    """How many makers stand in a data."""
    return signs_of(data)


def data_to(ground, kind, most):
    """All data of a told kind of a size of at most so many, by size, then sorted."""
    if not ground.is_kind(kind) or ground.is_open(kind):
        raise NoData("only a told kind has data")
    counts = Counts(ground)
    many = 0
    for size in range(1, most + 1):
        counts.add_size(size)
        many += counts.of_kind(kind, size)
        if many > MOST_TOLD:
            raise TooMany("there are more than two thousand data")
    rows = Rows(ground, counts)
    told = []
    for size in range(1, most + 1):
        told.extend(rows.of_kind(kind, size))
    return told


class Counts:
    """How many data there are of each told kind of each size, and how many rows of parts for each maker."""

    def __init__(self, ground):
        self._ground = ground
        self._makers = {}
        for kind, makers in ground.kinds():
            self._makers[kind] = [f for f, _ in makers]
        self._many_of_kind = {}
        self._many_of_parts = {}
        self._add_parts(0)

    def add_size(self, size):
        """Count the data of a size; all lesser ones must be counted ahead."""
        for kind in self._makers:
            self._many_of_kind[kind, size] = sum([self.of_parts(f, 0, size - 1) for f in self._makers[kind]])
        self._add_parts(size)

    def _add_parts(self, size):
        for kind in self._makers:
            for f in self._makers[kind]:
                self._add_parts_of(f, size)

    def _add_parts_of(self, f, size):
        takes = self._ground.takes(f)
        self._many_of_parts[f, len(takes), size] = 1 if size == 0 else 0
        for place in reversed(range(len(takes))):
            many = 0
            for first in range(1, size + 1):
                many += self.of_kind(takes[place], first) * self.of_parts(f, place + 1, size - first)
            self._many_of_parts[f, place, size] = many

    def of_kind(self, kind, size):
        """How many data of the kind have this size, which is counted."""
        return self._many_of_kind[kind, size]

    def of_parts(self, f, place, size):
        """How many rows of parts a maker may have from a place on, of this size all together."""
        return self._many_of_parts[f, place, size]


class Rows:
    """The data of a kind and a size, listed where they are asked for, each once.

    What is listed is always a part of what is told, so no list is longer than what is told.
    """

    def __init__(self, ground, counts):
        self._ground = ground
        self._counts = counts
        self._listed = {}

    def of_kind(self, kind, size):
        """All data of the kind of this size, sorted."""
        if (kind, size) not in self._listed:
            found = []
            for f in self._ground.makers(kind):
                found.extend([("made", f, parts) for parts in self._parts_of(f, 0, size - 1)])
            self._listed[kind, size] = sorted(found)
        return self._listed[kind, size]

    def _parts_of(self, f, place, size):
        takes = self._ground.takes(f)
        if place == len(takes):
            return [()] if size == 0 else []
        found = []
        for first in range(1, size + 1):
            rest = size - first
            if self._counts.of_kind(takes[place], first) and self._counts.of_parts(f, place + 1, rest):
                ends = self._parts_of(f, place + 1, rest)
                for part in self.of_kind(takes[place], first):
                    found.extend([(part,) + end for end in ends])
        return found
