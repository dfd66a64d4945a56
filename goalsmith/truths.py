"""What is true: of data, and in small worlds."""

from goalsmith.reckoning import worth
from goalsmith.sayings import put_in


def true_at(ground, saying, filling):
    """Whether a saying without all and some is true where its free names are filled with these data."""
    filled = saying
    for x, kind in filling:
        filled = put_in(filled, x, kind, filling[x, kind])
    return _is_true_of_data(ground, filled)


def _is_true_of_data(ground, saying):
    if saying[0] == "same":
        one = worth(ground, saying[1])
        return one == worth(ground, saying[2])
    # Each part is reckoned, even where another one alone would do.
    return joined_truth(saying[0], [_is_true_of_data(ground, part) for part in saying[1:]])


def joined_truth(word, truths):
    """Whether what no, not, and, or, so make of parts with these truths is true."""
    if word == "not":
        return not truths[0]
    if word == "and":
        return truths[0] and truths[1]
    if word == "or":
        return truths[0] or truths[1]
    if word == "so":
        return not truths[0] or truths[1]
    return False


def true_in(ground, saying, world, filling):
    """Whether a saying is true in a world where its free names are filled with these things."""
    return _is_true_in(saying, world, filling, ())


def _is_true_in(saying, world, filling, around):
    """Whether a saying is true where what stands around binds these things, the nearest first."""
    things, tables = world
    if saying[0] == "same":
        one = _thing_of(saying[1], tables, filling, around)
        return one == _thing_of(saying[2], tables, filling, around)
    if saying[0] == "all":
        return all(_is_true_in(saying[2], world, filling, (one,) + around) for one in range(things[saying[1]]))
    if saying[0] == "some":
        return any(_is_true_in(saying[2], world, filling, (one,) + around) for one in range(things[saying[1]]))
    return joined_truth(saying[0], [_is_true_in(part, world, filling, around) for part in saying[1:]])


def _thing_of(term, tables, filling, around):
    if term[0] == "name":
        return filling[term[1], term[2]]
    if term[0] == "bound":
        return around[term[1]]
    return tables[term[1]][tuple([_thing_of(part, tables, filling, around) for part in term[2]])]
