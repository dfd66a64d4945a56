"""Rows of things in which each stands once."""


class Writer:
    """Steps or goals, one behind another, each once, each with its number from 0."""

    def __init__(self):
        self._row = []
        self._numbers = {}

    def number_of(self, thing):
        """The number of a step or goal, which is written behind the others if it is a new one."""
        # Its text stands for it: a tuple that goes down so deep is no key.
        text = repr(thing)
        if text not in self._numbers:
            self._numbers[text] = len(self._row)
            self._row.append(thing)
        return self._numbers[text]

    def row(self):
        """All that is written, in order."""
        return list(self._row)
