"""All refusals, each straight under SmithError."""


class SmithError(ValueError):
    """Any refusal."""


class NoGround(SmithError):
    """What is handed in makes no ground."""


class NoText(SmithError):
    """What is handed in is no text of what is to be read."""


class NoData(SmithError):
    """A kind has no data, or a term is worth none."""


class TooMany(SmithError):
    """More would be told than may be."""


class TooFar(SmithError):
    """More would be done than may be, or something great would come."""


class NoRule(SmithError):
    """A kernel's step would be wrong."""


class NoGoal(SmithError):
    """What is handed in makes no goal."""


class Fails(SmithError):
    """A worker fails."""


class NotFalling(SmithError):
    """What is handed in makes no rule."""


class NoRewrite(SmithError):
    """What is handed in is no rewrite of a term."""


# The number of a row stands in no message: Python refuses to write out a great one.


class NoRow(SmithError):
    """A row of a book is none."""

    def __init__(self, at):
        super().__init__("this is no row of a book")
        self.at = at


class BadText(SmithError):
    """A row of a book holds no such text."""

    def __init__(self, at):
        super().__init__("what stands in this row is no such text")
        self.at = at


class Taken(SmithError):
    """A saying of a book has the name of an earlier one."""

    def __init__(self, at):
        super().__init__("an earlier saying has this name")
        self.at = at


class NoName(SmithError):
    """A work in a book names a saying that is not held ahead."""

    def __init__(self, at):
        super().__init__("a name is not held ahead of this row")
        self.at = at


class Unfit(SmithError):
    """A work in a book fails."""

    def __init__(self, at):
        super().__init__("the work of this row fails")
        self.at = at


class Left(SmithError):
    """A work in a book leaves goals."""

    def __init__(self, at, goals):
        super().__init__("the work of this row leaves goals")
        self.at = at
        # A copy, for the owner of the list may change it.
        self.goals = list(goals) if isinstance(goals, list) else goals
