"""A session: the code and the rules that are held, and the calls on them."""

from peepbook.machine import code_text, cost_of, read_code, read_code_line
from peepbook.refusals import NoRoom, NotFitting, NotThere, OutOfBounds
from peepbook.rules import fit_at, put_to_work, read_sound_rule
from peepbook.texts import bytes_of, text_of

MOST_INSTRUCTIONS = 128
MOST_RULES = 32


class Session:
    """Every call gives back its answer, or raises its refusal before anything is changed."""

    def __init__(self):
        self.instructions = []
        self.held = {}

    def load(self, text):
        """Take the code that a text is."""
        instructions = read_code(text_of(text))
        if len(instructions) > MOST_INSTRUCTIONS:
            raise NoRoom()
        return self.replace_code(instructions)

    def code(self):
        """Tell the code's text."""
        return [0] + bytes_of(code_text(self.instructions))

    def put(self, place, line):
        """Put an instruction before that of this place, or behind the last."""
        words = text_of(line)
        if place > len(self.instructions):
            raise OutOfBounds()
        instruction = read_code_line(words)
        if len(self.instructions) >= MOST_INSTRUCTIONS:
            raise NoRoom()
        return self.replace_code(self.instructions[:place] + [instruction] + self.instructions[place:])

    def cut(self, place):
        """Take the instruction of this place away."""
        if place >= len(self.instructions):
            raise NotThere()
        return self.replace_code(self.instructions[:place] + self.instructions[place + 1:])

    def judge(self, text):
        """Tell the costs of a rule's sides, if it might be taken."""
        rule = read_sound_rule(text_of(text))
        return [0, cost_of(rule.left), cost_of(rule.right)]

    def rule(self, text):
        """Hold a rule, and tell its number."""
        rule = read_sound_rule(text_of(text))
        if len(self.held) >= MOST_RULES:
            raise NoRoom()
        number = 0
        while number in self.held:
            number += 1
        self.held[number] = rule
        return [number]

    def drop(self, number):
        """Hold a rule no more."""
        self.held_rule(number)
        self.held.pop(number)
        return [0]

    def say(self, number):
        """Tell a rule's text."""
        return [0] + bytes_of(self.held_rule(number).text)

    def fits(self, number, place):
        """Tell how a rule fits at a place."""
        fit = self.held_fit(number, place)
        return [0] + fit.places + [fit.told_x(), fit.told_y()]

    def at(self, number, place):
        """Put a rule to work at a place."""
        fit = self.held_fit(number, place)
        return self.replace_code(put_to_work(self.held[number], fit, self.instructions, place))

    def replace_code(self, instructions):
        """Let these be the code from now on; tell how many they are and what they cost."""
        self.instructions = instructions
        return [0, len(instructions), cost_of(instructions)]

    def held_rule(self, number):
        """The rule of this number."""
        if number not in self.held:
            raise NotThere()
        return self.held[number]

    def held_fit(self, number, place):
        """How the rule of this number fits at a place."""
        fit = fit_at(self.held_rule(number), self.instructions, place)
        if fit is None:
            raise NotFitting()
        return fit
