"""A session: the code and the rules that are held, and the calls on them."""

from peepbook.machine import REGISTERS, code_text, cost_of, read_code, read_code_line
from peepbook.machine import state_after, state_between, sum_at
from peepbook.moments import History, Moment, are_alike
from peepbook.refusals import NoRoom, NotFitting, NotThere, OutOfBounds
from peepbook.rules import fit_at, read_sound_rule
from peepbook.steps import Step, moment_after, moment_at_rest, next_step
from peepbook.texts import bytes_of, text_of

MOST_INSTRUCTIONS = 128
MOST_RULES = 32


def read_whole_code(text):
    """The instructions that the bytes of a text tell, if they aren't too many."""
    instructions = read_code(text_of(text))
    if len(instructions) > MOST_INSTRUCTIONS:
        raise NoRoom()
    return instructions


class Session:
    """Every call gives back its answer, or raises its refusal before anything is changed."""

    def __init__(self):
        self.now = Moment([], [])
        self.history = History()
        self.held = {}

    def load(self, text):
        """Take the code that a text is."""
        return self.hand_in(read_whole_code(text))

    def code(self):
        """Tell the code's text."""
        return [0] + bytes_of(code_text(self.now.instructions))

    def put(self, place, line):
        """Put an instruction before that of this place, or behind the last."""
        words = text_of(line)
        before = self.now.instructions
        if place > len(before):
            raise OutOfBounds()
        instruction = read_code_line(words)
        if len(before) >= MOST_INSTRUCTIONS:
            raise NoRoom()
        return self.hand_in(before[:place] + [instruction] + before[place:])

    def cut(self, place):
        """Take the instruction of this place away."""
        before = self.now.instructions
        if place >= len(before):
            raise NotThere()
        return self.hand_in(before[:place] + before[place + 1:])

    def judge(self, text):
        """Tell the costs of a rule's sides, if it might be taken."""
        rule = read_sound_rule(text_of(text))
        return [0, cost_of(rule.left), cost_of(rule.right)]

    def rule(self, text):
        """Hold a rule, and tell its number."""
        rule = read_sound_rule(text_of(text))
        if len(self.held) >= MOST_RULES:
            raise NoRoom()
        number = 0
        while number in self.held:
            number += 1
        self.held[number] = rule
        return [number]

    def drop(self, number):
        """Hold a rule no more."""
        self.held_rule(number)
        self.held.pop(number)
        return [0]

    def say(self, number):
        """Tell a rule's text."""
        return [0] + bytes_of(self.held_rule(number).text)

    def fits(self, number, place):
        """Tell how a rule fits at a place."""
        fit = self.held_fit(number, place)
        return [0] + fit.places + [fit.told_x(), fit.told_y()]

    def at(self, number, place):
        """Put a rule to work at a place."""
        step = Step(number, place, self.held_fit(number, place))
        self.become(moment_after(self.held, self.now, step))
        return self.size()

    def step(self):
        """Put the rule to work that is next."""
        step = next_step(self.held, self.now.instructions)
        if step is None:
            raise NotFitting()
        self.become(moment_after(self.held, self.now, step))
        return [0, step.number, step.place]

    def run(self):
        """Make steps till none can be made, and tell how many."""
        reached = moment_at_rest(self.held, self.now)
        made = len(reached.worked) - len(self.now.worked)
        self.become(reached)
        return [made]

    def trail(self):
        """Tell which rules were put to work where."""
        told = [len(self.now.worked)]
        for pair in self.now.worked:
            told.extend(pair)
        return told

    def reckon(self, numbers):
        """Tell the state that the code comes to from this one."""
        if len(numbers) != len(REGISTERS):
            raise OutOfBounds()
        return [0] + state_after(self.now.instructions, numbers)

    def form(self, place):
        """Tell what the register of this place comes to, as a sum."""
        if place >= len(REGISTERS):
            raise OutOfBounds()
        return [0] + sum_at(self.now.instructions, place)

    def same(self, text):
        """Tell whether the code that a text is does the same, or a state from which it doesn't."""
        state = state_between(self.now.instructions, read_whole_code(text))
        return [1] if state is None else [0] + state

    def state(self):
        """Tell the code's size, what can be undone and done again, and which rules are held."""
        return self.size() + [len(self.history.before), len(self.history.undone)] + sorted(self.held)

    def undo(self):
        """Take the last edit back."""
        self.now = self.history.step_back(self.now)
        return [0]

    def redo(self):
        """Take the last undo back."""
        self.now = self.history.step_forth(self.now)
        return [0]

    def hand_in(self, instructions):
        """Let these be the code from now on, with no trail; tell its size."""
        self.become(Moment(instructions, []))
        return self.size()

    def become(self, moment):
        """Let this be what is held now; it is an edit only if that changes something."""
        if not are_alike(self.now, moment):
            self.history.edited(self.now)
            self.now = moment

    def size(self):
        """The answer that tells how many instructions the code has and what they cost."""
        return [0, len(self.now.instructions), cost_of(self.now.instructions)]

    def held_rule(self, number):
        """The rule of this number."""
        if number not in self.held:
            raise NotThere()
        return self.held[number]

    def held_fit(self, number, place):
        """How the rule of this number fits at a place."""
        fit = fit_at(self.held_rule(number), self.now.instructions, place)
        if fit is None:
            raise NotFitting()
        return fit
