"""Rows of truths: goals that hold whatever their atoms say."""

from goalsmith.cases import of_both_cases
from goalsmith.errors import TooMany
from goalsmith.givens import each_once
from goalsmith.truths import joined_truth
from goalsmith.ways import demand
from goalsmith.workers import Worker

MOST_ATOMS = 4
MOST_JOINTS = 30
JOINTS = ("not", "and", "or", "so")


def row_against(goal):
    """The first row of truths at which all that is given is true and the saying is not; None where there is none."""
    given, saying = goal
    atoms = _atoms_of(goal)
    if len(atoms) > MOST_ATOMS:
        raise TooMany("there are more than four atoms")
    for row in _rows(atoms):
        if not _truth(saying, row) and all(_truth(one, row) for one in given):
            return row
    return None


def _atoms_of(goal):
    given, saying = goal
    found = []
    for one in given + (saying,):
        _note_atoms(one, found)
    return list(each_once(found))


def _note_atoms(saying, found):
    if saying[0] in JOINTS:
        for part in saying[1:]:
            _note_atoms(part, found)
    elif saying[0] != "no":
        found.append(saying)


def _joints_in(saying):
    """How many of not, and, or, so are reached by these alone."""
    if saying[0] not in JOINTS:
        return 0
    return 1 + sum(_joints_in(part) for part in saying[1:])


def _rows(atoms):
    """All rows of truths, True ahead of False, from the first atom on."""
    rows = [[]]
    for atom in atoms:
        rows = [row + [(atom, truth)] for row in rows for truth in (True, False)]
    return rows


def _truth(saying, row):
    """Whether a saying is true at a row."""
    if saying[0] == "no" or saying[0] in JOINTS:
        return joined_truth(saying[0], [_truth(part, row) for part in saying[1:]])
    for atom, truth in row:
        if atom == saying:
            return truth
    return False


class ByRows(Worker):
    """Any saying that is true in each row of truths at which all that is given is."""

    STEADY = True

    def work(self, ground, goal):
        """The goals that are left, and the way back from these to the goal."""
        return super().work(ground, goal)

    def turned(self, way):
        """No goals."""
        goal = (way.given(), way.saying())
        atoms = _atoms_of(goal)
        joints = sum(_joints_in(one) for one in way.given() + (way.saying(),))
        demand(len(atoms) <= MOST_ATOMS and joints <= MOST_JOINTS, "there are too many atoms or joints")
        demand(row_against(goal) is None, "a row is against the goal")
        return _from_row_on(way, atoms, [])


def _from_row_on(way, atoms, row):
    """Write the goal's saying, given what a row says of the first atoms, by cases for the others."""
    if not atoms:
        return _in_row(way, row)
    atom = atoms[0]
    one = _from_row_on(way, atoms[1:], row + [(atom, True)])
    if atom not in way.held_at(one)[0]:
        return one
    other = _from_row_on(way, atoms[1:], row + [(atom, False)])
    return of_both_cases(way, atom, one, other)


def _in_row(way, row):
    """Write the goal's saying, given what a row says of all atoms."""
    if _truth(way.saying(), row):
        return _shown(way, row, way.saying())
    # The row is not against the goal: something that is given is not true in it.
    untrue = [one for one in way.given() if not _truth(one, row)][0]
    return way.step("any", (way.step("clash", (way.taken(untrue), _shown(way, row, untrue))),), way.saying())


def _shown(way, row, saying):
    """Write a saying that is true in a row, or the contrary of one that is not, given what the row says of atoms."""
    truth = _truth(saying, row)
    if saying[0] == "no":
        return way.step("deny", (way.taken(saying),), saying)
    if saying[0] not in JOINTS:
        return way.taken(saying if truth else ("not", saying))
    act = SHOWN[saying[0]]
    return act(way, row, saying, truth)


def _shown_not(way, row, saying, truth):
    number = _shown(way, row, saying[1])
    if truth:
        return number
    return way.step("deny", (way.step("clash", (number, way.taken(saying))),), saying)


def _shown_and(way, row, saying, truth):
    _, one, other = saying
    if truth:
        return way.step("both", (_shown(way, row, one), _shown(way, row, other)))
    rule, part = ("right", other) if _truth(one, row) else ("left", one)
    number = way.step(rule, (way.taken(saying),))
    return way.step("deny", (way.step("clash", (number, _shown(way, row, part))),), saying)


def _shown_or(way, row, saying, truth):
    _, one, other = saying
    if _truth(one, row):
        return way.step("first", (_shown(way, row, one),), other)
    if truth:
        return way.step("second", (_shown(way, row, other),), one)
    cases = [way.step("clash", (way.taken(part), _shown(way, row, part))) for part in (one, other)]
    return way.step("deny", (way.step("either", [way.taken(saying)] + cases),), saying)


def _shown_so(way, row, saying, truth):
    _, one, other = saying
    if _truth(other, row):
        return way.step("so", (_shown(way, row, other),), one)
    if truth:
        number = way.step("clash", (way.taken(one), _shown(way, row, one)))
        return way.step("so", (way.step("any", (number,), other),), one)
    number = way.step("use", (way.taken(saying), _shown(way, row, one)))
    return way.step("deny", (way.step("clash", (number, _shown(way, row, other))),), saying)


SHOWN = {
    "not": _shown_not,
    "and": _shown_and,
    "or": _shown_or,
    "so": _shown_so,
}
