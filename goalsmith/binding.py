"""The rules of all, some and same: what a step by each of them holds.

Each is put to the ground, to what the used steps hold, and to what stands in brackets, of these as many as are due.
"""

from goalsmith.givens import is_free_in, less, need, parts_of, together
from goalsmith.names import is_name
from goalsmith.sayings import is_opened_to, opened, shut
from goalsmith.terms import MOST_SIGNS_HELD, is_term, is_term_to, kind_of


def _need_term(ground, kind, thing):
    need(is_term(ground, thing) and kind_of(ground, thing) == kind, "a term of the kind is due")


def by_each(ground, used, told):
    """All, of the saying with a name that is not free in what is given."""
    given, saying = used[0]
    x, kind = told
    need(is_name(x) and ground.is_kind(kind), "a name and its kind are due in brackets")
    need(not is_free_in(x, kind, given), "the name is not free in what is given")
    return given, ("all", kind, shut(saying, x, kind))


def by_at(ground, used, told):
    """The body opened by a term, of all."""
    given, saying = used[0]
    kind, body = parts_of(saying, "all")
    _need_term(ground, kind, told[0])
    return given, opened(body, told[0])


def by_there(ground, used, told):
    """Some, of the body opened by a term."""
    given, saying = used[0]
    kind, body, term = told
    need(ground.is_kind(kind), "a kind is due in brackets")
    _need_term(ground, kind, term)
    need(is_opened_to(body, term, saying), "the saying is a body of the kind, opened by the term")
    return given, ("some", kind, body)


def by_name(ground, used, told):
    """C, of some, C; the latter may be given the body opened by a name that stands nowhere else."""
    (given, choice), (others, saying) = used
    kind, body = parts_of(choice, "some")
    x = told[0]
    need(is_name(x), "a name is due in brackets")
    rest = less(others, opened(body, ("name", x, kind)))
    need(not is_free_in(x, kind, (body, saying) + rest), "the name is free nowhere else")
    return together(given, rest), saying


def by_alike(ground, used, told):
    """t = t."""
    need(is_term_to(ground, told[0], MOST_SIGNS_HELD), "a term of the ground is due in brackets")
    return (), ("same", told[0], told[0])


def by_put(ground, used, told):
    """The body opened by t, of s = t, the body opened by s."""
    (given, same), (others, saying) = used
    one, other = parts_of(same, "same")
    kind, body = told
    need(ground.is_kind(kind) and kind_of(ground, one) == kind, "the terms' kind is due in brackets")
    need(is_opened_to(body, one, saying), "the second saying is a body of the kind, opened by the first term")
    return together(given, others), opened(body, other)


BINDING = {
    "each": by_each,
    "at": by_at,
    "there": by_there,
    "name": by_name,
    "alike": by_alike,
    "put": by_put,
}
