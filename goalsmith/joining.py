"""The rules of no, not, and, or, so: what a step by each of them holds.

Each is put to the ground, to what the used steps hold, and to what stands in brackets, of these as many as are due.
"""

from goalsmith.givens import less, need, parts_of, together
from goalsmith.sayings import is_saying_to
from goalsmith.terms import MOST_SIGNS_HELD


def _saying_told(ground, told):
    need(is_saying_to(ground, told[0], MOST_SIGNS_HELD), "a saying of the ground is due in brackets")
    return told[0]


def by_take(ground, used, told):
    """A, given A."""
    saying = _saying_told(ground, told)
    return (saying,), saying


def by_more(ground, used, told):
    """The saying of i, with A given, too."""
    given, saying = used[0]
    return together(given, (_saying_told(ground, told),)), saying


def by_both(ground, used, told):
    """A and B, of A, B."""
    (given, one), (others, other) = used
    return together(given, others), ("and", one, other)


def by_left(ground, used, told):
    """A, of A and B."""
    given, saying = used[0]
    return given, parts_of(saying, "and")[0]


def by_right(ground, used, told):
    """B, of A and B."""
    given, saying = used[0]
    return given, parts_of(saying, "and")[1]


def by_first(ground, used, told):
    """A or B, of A."""
    given, saying = used[0]
    return given, ("or", saying, _saying_told(ground, told))


def by_second(ground, used, told):
    """B or A, of A."""
    given, saying = used[0]
    return given, ("or", _saying_told(ground, told), saying)


def by_either(ground, used, told):
    """C, of A or B, C, C; the first C may be given A, the second one B."""
    (given, choice), (ones, saying), (others, other) = used
    one_case, other_case = parts_of(choice, "or")
    need(saying == other, "both cases hold one saying")
    return together(together(given, less(ones, one_case)), less(others, other_case)), saying


def by_so(ground, used, told):
    """A so B, of B, which may be given A."""
    given, saying = used[0]
    supposed = _saying_told(ground, told)
    return less(given, supposed), ("so", supposed, saying)


def by_use(ground, used, told):
    """B, of A so B, A."""
    (given, saying), (others, other) = used
    supposed, held = parts_of(saying, "so")
    need(supposed == other, "what is supposed is held")
    return together(given, others), held


def by_clash(ground, used, told):
    """No, of A, not A."""
    (given, saying), (others, other) = used
    need(other == ("not", saying), "the second saying is not the first")
    return together(given, others), ("no",)


def by_deny(ground, used, told):
    """Not A, of no, which may be given A."""
    given, saying = used[0]
    parts_of(saying, "no")
    denied = _saying_told(ground, told)
    return less(given, denied), ("not", denied)


def by_any(ground, used, told):
    """C, of no."""
    given, saying = used[0]
    parts_of(saying, "no")
    return given, _saying_told(ground, told)


def by_back(ground, used, told):
    """A, of no, which may be given not A."""
    given, saying = used[0]
    parts_of(saying, "no")
    held = _saying_told(ground, told)
    return less(given, ("not", held)), held


JOINING = {
    "take": by_take,
    "more": by_more,
    "both": by_both,
    "left": by_left,
    "right": by_right,
    "first": by_first,
    "second": by_second,
    "either": by_either,
    "so": by_so,
    "use": by_use,
    "clash": by_clash,
    "deny": by_deny,
    "any": by_any,
    "back": by_back,
}
