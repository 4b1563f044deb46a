"""Rules: how they are read, what may stand against them, where they fit and what they make of code."""

from peepbook.machine import MODULUS, WITH_CONSTANT, WITH_SECOND, Instruction
from peepbook.machine import cost_of, read_instructions, state_after, zero_and_ones
from peepbook.refusals import NotCheaper, NotFormed, NotReadable, NotRight
from peepbook.texts import has_open_end, lines_of, read_number

NAMES = ("a", "b", "c", "d")
PARTING = "=>"
MOST_LEFT = 4
TRIAL_NUMBERS = 6
NO_REGISTER = 8


class Rule:
    """A rule's two sides, whose instructions have names for registers and Constants for numbers."""

    def __init__(self, left, right, text):
        self.left = left
        self.right = right
        self.text = text


class Constant:
    """A number, and how many times (-1, 0 or 1) x and y are added to it."""

    def __init__(self, number, times_x, times_y):
        self.number = number
        self.times_x = times_x
        self.times_y = times_y

    def worth(self, x, y):
        """What it comes to with these numbers for x and y."""
        return (self.number + self.times_x * x + self.times_y * y) % MODULUS


class Fit:
    """What is put for a rule's names, and for its x and y (None while nothing is)."""

    def __init__(self):
        self.places = [NO_REGISTER] * len(NAMES)
        self.x = None
        self.y = None

    def put_name(self, name, place):
        """Put a register for a name; tell whether it stands for it and for no other."""
        if self.places[name] == NO_REGISTER and place not in self.places:
            self.places[name] = place
        return self.places[name] == place

    def put_constant(self, constant, number):
        """Put a number for a left side's constant; tell whether it stands for it."""
        if constant.times_x == 1 and self.x is None:
            self.x = number
        if constant.times_y == 1 and self.y is None:
            self.y = number
        return constant.worth(self.told_x(), self.told_y()) == number

    def told_x(self):
        """The number put for x, or 0."""
        return 0 if self.x is None else self.x

    def told_y(self):
        """The number put for y, or 0."""
        return 0 if self.y is None else self.y


def read_left_constant(word):
    """The constant that a word on the left is, or None."""
    if word == "x":
        return Constant(0, 1, 0)
    if word == "y":
        return Constant(0, 0, 1)
    number = read_number(word)
    if number is None:
        return None
    return Constant(number, 0, 0)


def times_at_end(word, letter):
    """How many times the letter is added by the end of the word."""
    if word.endswith("+" + letter):
        return 1
    if word.endswith("-" + letter):
        return -1
    return 0


def read_right_constant(word):
    """The constant that a word on the right is, or None."""
    times_y = times_at_end(word, "y")
    rest = word if times_y == 0 else word[:-2]
    times_x = times_at_end(rest, "x")
    rest = rest if times_x == 0 else rest[:-2]
    number = read_number(rest)
    if number is None:
        return None
    return Constant(number, times_x, times_y)


def read_rule(text):
    """The rule that a text is, whatever may stand against it."""
    lines = lines_of(text)
    parted = lines.index(PARTING) if PARTING in lines else len(lines)
    left = read_instructions(lines[:parted], 0, list(NAMES), read_left_constant)
    right = read_instructions(lines[parted + 1:], parted + 1, list(NAMES), read_right_constant)
    if parted == len(lines) or has_open_end(text):
        raise NotReadable(len(lines))
    return Rule(left, right, text)


def parts_of(side):
    """The names (from 0) that a side has, and the letters x and y if it has them."""
    parts = []
    for instruction in side:
        parts.append(instruction.first)
        if instruction.word in WITH_SECOND:
            parts.append(instruction.second)
        if instruction.word in WITH_CONSTANT:
            if instruction.second.times_x != 0:
                parts.append("x")
            if instruction.second.times_y != 0:
                parts.append("y")
    return parts


def is_formed(rule):
    """Whether the sides have as many instructions as they may, and the right no part of its own."""
    if not 1 <= len(rule.left) <= MOST_LEFT or len(rule.right) > len(rule.left):
        return False
    known = parts_of(rule.left)
    return all([part in known for part in parts_of(rule.right)])


def filled_in(side, places, x, y):
    """The instructions of the machine that a side becomes with these registers and numbers."""
    instructions = []
    for instruction in side:
        second = instruction.second
        if instruction.word in WITH_SECOND:
            second = places[second]
        if instruction.word in WITH_CONSTANT:
            second = second.worth(x, y)
        instructions.append(Instruction(instruction.word, places[instruction.first], second))
    return instructions


def seven_trials():
    """The trials: six numbers each, for r0 to r3, x and y."""
    return zero_and_ones(TRIAL_NUMBERS)


def state_on_trial(side, trial):
    """The state that a side comes to on a trial."""
    names = len(NAMES)
    instructions = filled_in(side, list(range(names)), trial[names], trial[names + 1])
    return state_after(instructions, trial[:names] + [0, 0, 0, 0])


def trial_against(rule):
    """The first trial on which the sides come to different states, or None."""
    for trial in seven_trials():
        if state_on_trial(rule.left, trial) != state_on_trial(rule.right, trial):
            return trial
    return None


def read_sound_rule(text):
    """The rule that a text is, if nothing stands against it."""
    rule = read_rule(text)
    if not is_formed(rule):
        raise NotFormed()
    if cost_of(rule.right) >= cost_of(rule.left):
        raise NotCheaper()
    # What a register comes to is a sum of multiples of the six numbers, so the trials show every difference.
    trial = trial_against(rule)
    if trial is not None:
        raise NotRight(trial)
    return rule


def takes(fit, wanted, found):
    """Whether the instruction found, of the same word, is the one wanted with what is put; puts what is not yet put."""
    if not fit.put_name(wanted.first, found.first):
        return False
    if wanted.word in WITH_SECOND:
        return fit.put_name(wanted.second, found.second)
    if wanted.word in WITH_CONSTANT:
        return fit.put_constant(wanted.second, found.second)
    return True


def fit_at(rule, instructions, place):
    """How the rule fits at this place of the code, or None."""
    covered = instructions[place:place + len(rule.left)]
    # Most places are told from a rule by their words alone, before any register or number is put.
    if [found.word for found in covered] != [wanted.word for wanted in rule.left]:
        return None
    fit = Fit()
    for wanted, found in zip(rule.left, covered):
        if not takes(fit, wanted, found):
            return None
    return fit


def put_to_work(rule, fit, instructions, place):
    """The code with the rule's right side in the place of its left."""
    replaced = filled_in(rule.right, fit.places, fit.told_x(), fit.told_y())
    return instructions[:place] + replaced + instructions[place + len(rule.left):]
