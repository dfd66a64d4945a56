"""Grounds: kinds of data with their makers, and works on them."""

from goalsmith.errors import NoGround
from goalsmith.names import is_name, is_whole
from goalsmith.rights import is_right

MOST_KINDS = 8
MOST_MAKERS = 6
MOST_TAKEN = 4
MOST_WORKS = 16
# What stands for what neither takes nor gives anything.
NOTHING = (None, None)


class Ground:
    """Kinds and works, looked through once when they are handed in."""

    def __init__(self, kinds, works):
        self._makers = {}
        # For each maker and work the kinds that it takes, and the one that it gives.
        self._told = {}
        self._falls_at = {}
        self._rights = {}
        _need(_is_list(kinds, MOST_KINDS), "kinds are a list of at most eight")
        _need(_is_list(works, MOST_WORKS), "works are a list of at most sixteen")
        for kind in kinds:
            self._add_kind(kind)
        for work in works:
            self._add_work(work)

    def _add_kind(self, told):
        _need(_is_row(told, 2), "a kind is a tuple of its name and its makers")
        kind, makers = told
        self._need_new(kind)
        _need(_is_list(makers, MOST_MAKERS), "makers are a list of at most six")
        self._makers[kind] = ()
        for maker in makers:
            self._add_maker(kind, maker)
        if makers:
            _need(
                any(kind not in self.takes(f) for f in self._makers[kind]),
                "one maker at least does not take its own kind",
            )

    def _add_maker(self, kind, told):
        _need(_is_row(told, 2), "a maker is a tuple of its name and what it takes")
        f, takes = told
        self._need_new(f)
        _need(_is_list(takes, MOST_TAKEN), "what a maker takes is a list of at most four kinds")
        for taken in takes:
            _need(self.is_kind(taken), "what a maker takes is a kind told ahead, or its own")
            _need(taken == kind or not self.is_open(taken), "what a maker takes is no open kind")
        self._told[f] = (tuple(takes), kind)
        self._makers[kind] += (f,)

    def _add_work(self, told):
        _need(_is_row(told, 5), "a work is a tuple of its name, what it takes, gives, its place and rights")
        f, takes, gives, at, rights = told
        self._need_new(f)
        _need(_is_list(takes, MOST_TAKEN), "what a work takes is a list of at most four kinds")
        _need(all(self.is_kind(taken) for taken in takes), "a work takes kinds")
        _need(self.is_kind(gives), "a work gives a kind")
        _need(isinstance(rights, list), "rights are a list")
        makers = self._makers_falling(takes, at, rights)
        self._told[f] = (tuple(takes), gives)
        self._falls_at[f] = at
        self._rights[f] = ()
        for maker, right in zip(makers, rights):
            _need(is_right(self, f, maker, right), "a right is a term that falls, of what stands ahead")
        self._rights[f] = tuple(rights)

    def _makers_falling(self, takes, at, rights):
        """For each right the maker for which it stands, or None."""
        if at is None:
            _need(len(rights) <= 1, "a work without a place has one right or none")
            return [None for _ in rights]
        _need(is_whole(at) and 0 <= at < len(takes), "a place is a number of what a work takes")
        makers = self._makers[takes[at]]
        _need(len(makers) > 0, "a told kind stands at a place")
        _need(len(rights) == len(makers), "there is a right for each maker")
        return list(makers)

    def _need_new(self, name):
        _need(is_name(name), "a kind, a maker or a work has a name")
        _need(name not in self._makers and name not in self._told, "all names are unlike")

    def kinds(self):
        """All kinds, as handed in."""
        return [(kind, [(f, self.takes(f)) for f in self._makers[kind]]) for kind in self._makers]

    def works(self):
        """All works, as handed in."""
        return [(f, self.takes(f), self.gives(f), self.falls_at(f), self.rights(f)) for f in self._rights]

    def takes(self, f):
        """The kinds that a maker or a work takes."""
        takes, _ = self._told[f]
        return list(takes)

    def gives(self, f):
        """The kind that a maker or a work gives."""
        _, gives = self._told[f]
        return gives

    def takes_and_gives(self, thing):
        """The kinds, as a tuple, that a maker or a work takes, and the one that it gives; of anything else NOTHING."""
        if not isinstance(thing, str):
            return NOTHING
        return self._told.get(thing, NOTHING)

    def makers(self, kind):
        """The names of a kind's makers; none of an open one."""
        return list(self._makers[kind])

    def is_kind(self, thing):
        """Whether a thing, whatever it is, is a kind."""
        return isinstance(thing, str) and thing in self._makers

    def is_maker(self, thing):
        """Whether a thing, whatever it is, is a maker."""
        return isinstance(thing, str) and thing in self._told and thing not in self._rights

    def is_work(self, thing):
        """Whether a thing, whatever it is, is a work."""
        return isinstance(thing, str) and thing in self._rights

    def is_open(self, thing):
        """Whether a thing, whatever it is, is an open kind or an open work."""
        if self.is_kind(thing):
            return not self._makers[thing]
        return self.is_work(thing) and not self._rights[thing]

    def falls_at(self, f):
        """A work's place, or None."""
        return self._falls_at[f]

    def rights(self, f):
        """A work's rights."""
        return list(self._rights[f])


def _need(holds, why):
    if not holds:
        raise NoGround(why)


def _is_list(thing, most):
    return isinstance(thing, list) and len(thing) <= most


def _is_row(thing, many):
    return isinstance(thing, tuple) and len(thing) == many
