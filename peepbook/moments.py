"""What undo brings back: code together with its trail, and the line of such moments that can be had again."""

from peepbook.machine import code_text
from peepbook.refusals import NotThere

MOST_UNDONE = 16


class Moment:
    """Code, and in order the pairs of a rule's number and a place that led to it since it was handed in."""

    def __init__(self, instructions, worked):
        self.instructions = instructions
        self.worked = worked


def are_alike(one, other):
    """Whether two moments have the same code and the same trail."""
    return one.worked == other.worked and code_text(one.instructions) == code_text(other.instructions)


class History:
    """The moments before each edit that can be undone, and before each undo that can be done again."""

    def __init__(self):
        self.before = []
        self.undone = []

    def edited(self, left):
        """An edit was made: this is the moment that it left."""
        self.before.append(left)
        if len(self.before) > MOST_UNDONE:
            self.before.pop(0)
        self.undone.clear()

    def step_back(self, left):
        """The moment before the last edit; the one that is left can be had again."""
        if len(self.before) == 0:
            raise NotThere()
        self.undone.append(left)
        return self.before.pop()

    def step_forth(self, left):
        """The moment before the last undo; the one that is left can be had again."""
        if len(self.undone) == 0:
            raise NotThere()
        self.before.append(left)
        return self.undone.pop()
