"""The machine: how its instructions are read and written, what they cost, what they do."""

from peepbook.refusals import NotReadable
from peepbook.texts import has_open_end, lines_of, read_number

MODULUS = 4294967296
REGISTERS = ("r0", "r1", "r2", "r3", "r4", "r5", "r6", "r7")
COSTS = {"set": 1, "mov": 1, "add": 3, "sub": 3, "adc": 2, "neg": 2, "swp": 4}
WITH_CONSTANT = ("set", "adc")
WITH_SECOND = ("mov", "add", "sub", "swp")


class Instruction:
    """A word, the place (from 0) of its first name, and what stands behind: a place, a constant or None."""

    def __init__(self, word, first, second):
        self.word = word
        self.first = first
        self.second = second


def place_of(word, names):
    """The place of a word among the names, or None."""
    if word in names:
        return names.index(word)
    return None


def read_instruction(line, names, read_constant):
    """The instruction that a line is, or None; names and read_constant tell what its words may be."""
    words = line.split(" ")
    word = words[0]
    if word not in COSTS:
        return None
    takes_more = word in WITH_CONSTANT or word in WITH_SECOND
    if len(words) != (3 if takes_more else 2):
        return None
    first = place_of(words[1], names)
    if first is None:
        return None
    if not takes_more:
        return Instruction(word, first, None)
    second = read_constant(words[2]) if word in WITH_CONSTANT else place_of(words[2], names)
    if second is None:
        return None
    return Instruction(word, first, second)


def read_instructions(lines, start, names, read_constant):
    """The instructions that these lines are; start is the number of the first in its text."""
    instructions = []
    for number, line in enumerate(lines):
        instruction = read_instruction(line, names, read_constant)
        if instruction is None:
            raise NotReadable(start + number)
        instructions.append(instruction)
    return instructions


def read_code_line(line):
    """The instruction of the machine that a line is."""
    return read_instructions([line], 0, list(REGISTERS), read_number)[0]


def read_code(text):
    """The instructions of the machine that a text is, however many."""
    lines = lines_of(text)
    instructions = read_instructions(lines, 0, list(REGISTERS), read_number)
    if has_open_end(text):
        raise NotReadable(len(lines))
    return instructions


def line_of(instruction):
    """The line that an instruction of the machine is read from."""
    words = [instruction.word, REGISTERS[instruction.first]]
    if instruction.word in WITH_SECOND:
        words.append(REGISTERS[instruction.second])
    if instruction.word in WITH_CONSTANT:
        words.append(str(instruction.second))
    return " ".join(words)


def code_text(instructions):
    """The text that instructions of the machine are read from."""
    return "".join([line_of(instruction) + "\n" for instruction in instructions])


def cost_of(instructions):
    """What these instructions cost together."""
    return sum([COSTS[instruction.word] for instruction in instructions])


def carry_out(instruction, state):
    """Change the state as the instruction does."""
    word = instruction.word
    first = instruction.first
    second = instruction.second
    if word == "set":
        state[first] = second
    elif word == "mov":
        state[first] = state[second]
    elif word == "add":
        state[first] = (state[first] + state[second]) % MODULUS
    elif word == "sub":
        state[first] = (state[first] - state[second]) % MODULUS
    elif word == "adc":
        state[first] = (state[first] + second) % MODULUS
    elif word == "neg":
        state[first] = (0 - state[first]) % MODULUS
    else:
        before = state[first]
        state[first] = state[second]
        state[second] = before


def state_after(instructions, state):
    """The state that the instructions come to from this one."""
    reached = list(state)
    for instruction in instructions:
        carry_out(instruction, reached)
    return reached


def zero_and_ones(length):
    """Rows of this length: all 0; then each number in turn 1, the others 0."""
    rows = [[0] * length]
    for place in range(length):
        rows.append([1 if other == place else 0 for other in range(length)])
    return rows


def nine_states():
    """The states that tell all codes apart that don't do the same."""
    return zero_and_ones(len(REGISTERS))


def state_between(one, other):
    """The first of the nine states from which two codes come to different ones, or None."""
    # What a register comes to is a sum of multiples of the eight and a number, so these states show every difference.
    for state in nine_states():
        if state_after(one, state) != state_after(other, state):
            return state
    return None


def sum_at(instructions, place):
    """What the register of this place comes to: how many times each register is in it, then what is added."""
    reached = [state_after(instructions, state)[place] for state in nine_states()]
    added = reached[0]
    return [(number - added) % MODULUS for number in reached[1:]] + [added]
