"""Rows of goals or steps in which each stands once."""


class GoalWriter:
    """Goals, one behind another, each once, each with its number from 0."""

    def __init__(self):
        self._row = []
        self._numbers = {}

    def number_of(self, goal):
        """The number of a goal, which is written behind the others if it is a new one."""
        # Its text stands for it: a tuple that goes down so deep is no key.
        text = repr(goal)
        if text not in self._numbers:
            self._numbers[text] = len(self._row)
            self._row.append(goal)
        return self._numbers[text]

    def row(self):
        """All that is written, in order."""
        return list(self._row)


class StepWriter:
    """Steps, one behind another, each once, each with its number from 0."""

    def __init__(self):
        self._row = []
        # For each rule with what it uses the number of the only step with these; None where there are more.
        self._only = {}
        self._numbers = {}

    def number_of(self, step):
        """The number of a step, which is written behind the others if it is a new one."""
        # Its text stands for it, but is long: most steps are new ones already by their rule and what they use.
        head = repr(step[:2])
        if head not in self._only:
            self._only[head] = self._written(step)
            return self._only[head]
        first = self._only[head]
        if first is not None:
            self._numbers[repr(self._row[first])] = first
            self._only[head] = None
        text = repr(step)
        if text not in self._numbers:
            self._numbers[text] = self._written(step)
        return self._numbers[text]

    def _written(self, step):
        self._row.append(step)
        return len(self._row) - 1

    def row(self):
        """All that is written, in order."""
        return list(self._row)
