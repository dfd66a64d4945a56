"""The greatest parts of sayings that are terms without bound ones."""

from goalsmith.sayings import BINDS
from goalsmith.terms import inner_of

TERMS = ("name", "made")


def greatest_parts(saying):
    """The greatest parts of a saying that are terms without bound ones, each once, from the left."""
    found = []
    _note_greatest(saying, found)
    return found


def _note_greatest(thing, found):
    if _is_whole_term(thing):
        if thing not in found:
            found.append(thing)
        return
    for inner in inner_of(thing):
        _note_greatest(inner, found)


def _is_whole_term(thing):
    return thing[0] in TERMS and not _has_bound(thing)


def _has_bound(term):
    return term[0] == "bound" or any(_has_bound(part) for part in inner_of(term))


def with_greatest(thing, change, deep=0):
    """A saying, or what stands in one within so many all and some, with these parts changed.

    What changes them is told the part, and how many all and some stand around.
    """
    if _is_whole_term(thing):
        return change(thing, deep)
    word = thing[0]
    if word == "bound":
        return thing
    if word == "made":
        return ("made", thing[1], tuple([with_greatest(part, change, deep) for part in thing[2]]))
    if word in BINDS:
        return (word, thing[1], with_greatest(thing[2], change, deep + 1))
    return (word,) + tuple([with_greatest(part, change, deep) for part in thing[1:]])
