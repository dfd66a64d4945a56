"""Books of held sayings, and their entries looked through."""

from goalsmith.errors import BadText, Fails, Left, NoGround, NoName, NoRow, NoText, Taken, Unfit
from goalsmith.kernel import Kernel
from goalsmith.names import is_name
from goalsmith.papers import cut
from goalsmith.reader import read_paper
from goalsmith.sayings import free_in, is_saying
from goalsmith.sayingtexts import read_saying
from goalsmith.termtexts import read_ground
from goalsmith.works import work_and_names
from goalsmith.writers import StepWriter

HELD_ROW = "held "
BY_ROW = "by "


class Book:
    """A ground, and sayings that are held, each by the work that stands behind it."""

    def __init__(self, ground, text, told):
        self._ground = ground
        self._text = text
        # For each name a tuple: the text of its work, what is held by it, and the names that it names.
        self._told = dict(told)

    def ground(self):
        """The ground."""
        return self._ground

    def names(self):
        """The sayings' names, in order."""
        return list(self._told)

    def saying(self, name):
        """The saying of a name."""
        return self.held(name).saying()

    def work(self, name):
        """The text of the work of a name."""
        work, _, _ = self._told[name]
        return work

    def held(self, name):
        """The held thing of a name."""
        _, held, _ = self._told[name]
        return held

    def leans(self, name):
        """The names that the work of a name names, as sorted."""
        _, _, leans = self._told[name]
        return list(leans)

    def shown(self):
        """The text from which it was read."""
        return self._text

    def entries(self):
        """For each saying a tuple of its name, itself, and a paper that leans on those that its work names."""
        numbers = {name: number for number, name in enumerate(self._told)}
        entries = []
        for name in self._told:
            goals = [(numbers[lean], ((), self.saying(lean))) for lean in self.leans(name)]
            entries.append((name, self.saying(name), _leaning(self.held(name), goals)))
        return entries


def _leaning(held, goals):
    """A held thing's paper, with these goals, each with its number, lent in the place of the steps that hold them."""
    numbers = []
    writer = StepWriter()
    for (rule, uses, told), here in zip(held.paper(), held.held_by_steps()):
        lent = [number for number, goal in goals if goal == here]
        if lent:
            numbers.append(writer.number_of(("lent", (), (lent[0],))))
        else:
            numbers.append(writer.number_of((rule, tuple([numbers[use] for use in uses]), told)))
    return cut(writer.row()[:numbers[-1] + 1])


def read_book(text):
    """The book of which this is the text; refused at the first row that is."""
    if not isinstance(text, str):
        raise NoRow(1)
    rows = text.split("\n")
    unended = rows.pop()
    many, ground = _ground_of(rows)
    kernel = Kernel(ground)
    told = {}
    # The rows are numbered from 0 here, and from 1 where they are refused.
    at = many
    while at < len(rows):
        name, saying_text = _saying_row(rows, at)
        saying = _saying_of(ground, told, name, saying_text, at + 1)
        work = rows[at + 1][len(BY_ROW):]
        told[name] = _held_by_work(kernel, told, saying, work, at + 2)
        at += 2
    if unended:
        raise NoRow(len(rows) + 1)
    return Book(ground, text, told)


def _ground_of(rows):
    """How many rows the ground has, and the ground."""
    many = 0
    while many < len(rows) and (rows[many].startswith("kind ") or rows[many].startswith("work ")):
        many += 1
    ground = _ground_in(rows[:many])
    if ground is None:
        raise BadText(_first_refused(rows[:many]))
    return many, ground


def _ground_in(rows):
    """The ground of these rows, or None."""
    try:
        return read_ground("".join([row + "\n" for row in rows]))
    except (NoText, NoGround):
        return None


def _first_refused(rows):
    """The number, from 1, of the first row down to which these rows make no ground; all of them make none."""
    # Where some rows make none, these and more make none either: so each look halves where the row may be.
    made = 0
    unmade = len(rows)
    while unmade - made > 1:
        many = (made + unmade) // 2
        if _ground_in(rows[:many]) is None:
            unmade = many
        else:
            made = many
    return unmade


def _saying_row(rows, at):
    """The name and the text of the saying in this row, behind which its work must stand."""
    row = rows[at]
    name, sign, saying_text = row[len(HELD_ROW):].partition(": ")
    if not row.startswith(HELD_ROW) or not is_name(name) or sign == "":
        raise NoRow(at + 1)
    if at + 1 == len(rows) or not rows[at + 1].startswith(BY_ROW):
        raise NoRow(at + 1)
    return name, saying_text


def _saying_of(ground, told, name, text, at):
    if name in told:
        raise Taken(at)
    try:
        saying = read_saying(ground, text)
    except NoText:
        raise BadText(at)
    if free_in([saying]):
        raise BadText(at)
    return saying


def _held_by_work(kernel, told, saying, work, at):
    """What a book tells of a saying: its work, what is held by it, and the names that the work names."""
    helds = {name: told[name][1] for name in told}
    try:
        worker, names = work_and_names(kernel.ground(), work, helds)
    except NoText:
        raise BadText(at)
    if any(name not in helds for name in names):
        raise NoName(at)
    try:
        goals, way = worker.work(kernel.ground(), ((), saying))
    except Fails:
        raise Unfit(at)
    if goals:
        raise Left(at, goals)
    return work, kernel.by_paper(way, []), tuple(names)


def looked_through(ground, entries):
    """Whether the small reader finds each entry right; if not, the first wrong one, and its first wrong step."""
    goals = []
    for k, entry in enumerate(entries):
        if not isinstance(entry, tuple) or len(entry) != 3:
            return ("wrong", k, 0)
        _, saying, paper = entry
        told = read_paper(ground, goals, paper)
        if told[0] == "wrong":
            return ("wrong", k, told[1])
        # A thing may say of itself that it is the same as any other.
        if told[1:] != ((), saying) or not is_saying(ground, saying):
            return ("wrong", k, len(paper))
        goals.append(((), saying))
    return ("held", len(entries))
