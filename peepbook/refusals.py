"""The refusals: each carries the numbers that are answered in place of what was asked for."""


class Refusal(Exception):
    """A call is refused, and has changed nothing."""

    def __init__(self, answer):
        Exception.__init__(self)
        self.answer = answer


class OutOfBounds(Refusal):
    """A text is too long, or a place lies behind the end."""

    def __init__(self):
        Refusal.__init__(self, [-1])


class NotFormed(Refusal):
    """A rule's sides have too many instructions, or the right side has what the left hasn't."""

    def __init__(self):
        Refusal.__init__(self, [-2])


class NotThere(Refusal):
    """There is no instruction, or no rule, of that number."""

    def __init__(self):
        Refusal.__init__(self, [-3])


class NotRight(Refusal):
    """A rule's sides come to different states on a trial."""

    def __init__(self, trial):
        Refusal.__init__(self, [-3] + trial)


class NotCheaper(Refusal):
    """A rule's right side costs no less than its left."""

    def __init__(self):
        Refusal.__init__(self, [-4])


class NotFitting(Refusal):
    """A rule doesn't fit at a place."""

    def __init__(self):
        Refusal.__init__(self, [-5])


class NotReadable(Refusal):
    """A text is none of the kind that was asked for."""

    def __init__(self, fault):
        Refusal.__init__(self, [-6, fault])


class NoRoom(Refusal):
    """There are as many instructions, or rules, as there may be."""

    def __init__(self):
        Refusal.__init__(self, [-9])
