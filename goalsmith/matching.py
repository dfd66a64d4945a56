"""Lefts of rules that fit terms."""

from goalsmith.terms import kind_of


def fitting(ground, rule, term):
    """The terms with which a rule's left is the term, one for each bound one (None where it does not stand there)."""
    kinds, left, _ = rule
    parts = [None for _ in kinds]
    if not _fits(ground, kinds, left, term, parts):
        return None
    return tuple(parts)


def _fits(ground, kinds, left, term, parts):
    """Whether the left fits, with the parts found so far; those that are found are noted."""
    if left[0] == "bound":
        if parts[left[1]] is None:
            parts[left[1]] = term
            return kind_of(ground, term) == kinds[left[1]]
        return parts[left[1]] == term
    if left[0] == "name" or term[0] != "made" or left[1] != term[1]:
        return left == term
    for one, other in zip(left[2], term[2]):
        if not _fits(ground, kinds, one, other, parts):
            return False
    return True


def filled(term, parts):
    """A term with these terms for its bound ones."""
    if term[0] == "bound":
        return parts[term[1]]
    if term[0] == "name":
        return term
    return ("made", term[1], tuple([filled(part, parts) for part in term[2]]))
