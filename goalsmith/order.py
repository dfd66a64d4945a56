"""The order of terms, by which each rewrite makes a term less."""


def is_greater(ground, one, other):
    """Whether the one term is greater than the other."""
    pairs = Pairs(ground)
    number = pairs.number_of(one)
    mate = pairs.number_of(other)
    return pairs.is_greater(number, mate)


class Pairs:
    """Terms with numbers, each behind those of its parts, and which of two terms is greater.

    Each two of them are compared once: all parts of the one with all parts of the other, the parts ahead.
    """

    def __init__(self, ground):
        self._ground = ground
        self._ranks = _ranks(ground)
        self._numbers = {}
        self._told = []

    def number_of(self, term):
        """The number of a term; its parts have lower ones."""
        parts = ()
        if term[0] == "made":
            parts = tuple([self.number_of(part) for part in term[2]])
            key = term[:2] + parts
        else:
            key = term
        if key not in self._numbers:
            self._numbers[key] = len(self._told)
            self._told.append((term[0], term[1:] if term[0] == "name" else term[1], parts))
        return self._numbers[key]

    def is_greater(self, number, mate):
        """Whether the term with the first number is greater than that with the second."""
        greater = {}
        for one in range(number + 1):
            for other in range(mate + 1):
                greater[one, other] = self._compared(one, other, greater)
        return greater[number, mate]

    def _compared(self, one, other, greater):
        """Whether the one is greater, where this is told of their parts."""
        word, f, parts = self._told[one]
        other_word, g, mates = self._told[other]
        if word != "made":
            return word == "name" and other_word == "name" and f > g
        for part in parts:
            if part == other or greater[part, other]:
                return True
        if other_word != "made":
            return other_word == "name"
        for mate in mates:
            if not greater[one, mate]:
                return False
        if f != g:
            return self._ranks[f] > self._ranks[g]
        return self._is_first_greater(f, parts, mates, greater)

    def _is_first_greater(self, f, parts, mates, greater):
        """Whether in the first place where the parts are unlike the one's is greater."""
        for place in self._places(f):
            if parts[place] != mates[place]:
                return greater[parts[place], mates[place]]
        return False

    def _places(self, f):
        """The places of a maker or a work, as they are looked at."""
        places = list(range(len(self._ground.takes(f))))
        at = self._ground.falls_at(f) if self._ground.is_work(f) else None
        if at is None:
            return places
        return [at] + places[:at] + places[at + 1:]


def _ranks(ground):
    """How high each maker and work stands."""
    ranks = {}
    for _, makers in ground.kinds():
        for f, _ in makers:
            ranks[f] = len(ranks)
    for work in ground.works():
        ranks[work[0]] = len(ranks)
    return ranks
