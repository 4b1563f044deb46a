"""Steps: where the next one is made, and what a moment becomes when a rule is put to work on it."""

from peepbook.moments import Moment
from peepbook.rules import fit_at, put_to_work


class Step:
    """The number of a rule, a place and how the rule fits there."""

    def __init__(self, number, place, fit):
        self.number = number
        self.place = place
        self.fit = fit


def next_step(held, instructions):
    """The step at the first place where any rule fits, with the lowest number that fits there; or None."""
    numbers = sorted(held)
    for place in range(len(instructions)):
        for number in numbers:
            fit = fit_at(held[number], instructions, place)
            if fit is not None:
                return Step(number, place, fit)
    return None


def moment_after(held, moment, step):
    """The moment that comes of this one by a step."""
    instructions = put_to_work(held[step.number], step.fit, moment.instructions, step.place)
    return Moment(instructions, moment.worked + [(step.number, step.place)])


def moment_at_rest(held, moment):
    """The moment that comes of this one by steps, till none can be made."""
    # A step lowers the cost, so there is a last one.
    step = next_step(held, moment.instructions)
    while step is not None:
        moment = moment_after(held, moment, step)
        step = next_step(held, moment.instructions)
    return moment
