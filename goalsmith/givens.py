"""What is given: sorted tuples of sayings, each once; and what a rule needs."""

from goalsmith.errors import NoRule
from goalsmith.terms import inner_of


def need(holds, why):
    """Refuse what a rule does not let be."""
    if not holds:
        raise NoRule(why)


def parts_of(saying, word):
    """What stands within a saying, which must be put together by this word."""
    need(saying[0] == word, "the saying of a used step is put together otherwise")
    return saying[1:]


def each_once(sayings):
    """A list of sayings as what is given: sorted, each once."""
    found = []
    for saying in sorted(sayings):
        if not found or found[-1] != saying:
            found.append(saying)
    return tuple(found)


def together(one, other):
    """All that is given in the one or the other."""
    return each_once(list(one) + list(other))


def less(given, saying):
    """What is given but for a saying, which may not be given at all."""
    return tuple([one for one in given if one != saying])


def is_free_in(x, kind, things):
    """Whether a name with its kind stands in some of these terms, sayings and bodies."""
    for thing in things:
        if thing == ("name", x, kind) or is_free_in(x, kind, inner_of(thing)):
            return True
    return False
