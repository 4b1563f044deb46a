"""What the tests share: calls as lists, answers parted, rules, and a second, slow reckoning of the machine."""

import itertools
import random

from peepbook.rewriting import answers

SIZE = 2 ** 32
LARGEST = SIZE - 1
COST = {"set": 1, "mov": 1, "add": 3, "sub": 3, "adc": 2, "neg": 2, "swp": 4}
TAIL = {"set": "k", "adc": "k", "mov": "r", "add": "r", "sub": "r", "swp": "r", "neg": ""}


def as_bytes(text):
    return list(text) if isinstance(text, list) else list(text.encode("latin-1"))


def with_row(number, row, *whole):
    row = as_bytes(row)
    return [number, *whole, len(row), *row]


def load(text):
    return with_row(0, text)


def code():
    return [1]


def put(i, line):
    return with_row(2, line, i)


def cut(i):
    return [3, i]


def judge(text):
    return with_row(4, text)


def rule(text):
    return with_row(5, text)


def drop(k):
    return [6, k]


def say(k):
    return [7, k]


def fits(k, i):
    return [8, k, i]


def at(k, i):
    return [9, k, i]


def step():
    return [10]


def run():
    return [11]


def trail():
    return [12]


def evaluated(numbers):
    return [13, len(numbers), *numbers]


def form(r):
    return [14, r]


def same(text):
    return with_row(15, text)


def state():
    return [16]


def undo():
    return [17]


def redo():
    return [18]


def parted(told):
    """The answers of one list, each a list of its own."""
    found = []
    while told:
        found.append(told[1:1 + told[0]])
        assert len(found[-1]) == told[0], "an answer is shorter than it says"
        told = told[1 + told[0]:]
    return found


def talk(*calls):
    """Every answer to these calls on a new object."""
    return parted(answers([number for call in calls for number in call]))


def last(*calls):
    """The last answer to these calls on a new object."""
    return talk(*calls)[-1]


def told_text(text):
    """The answer that tells this text."""
    return [0] + as_bytes(text)


def text(*lines):
    return "".join(line + "\n" for line in lines)


TWICE = text("neg a", "neg a", "=>")
RULES = (
    TWICE,
    text("mov a a", "=>"),
    text("swp a a", "=>"),
    text("set a x", "set a y", "=>", "set a 0+y"),
    text("set a x", "adc a y", "=>", "set a 0+x+y"),
    text("adc a x", "adc a y", "=>", "adc a 0+x+y"),
    text("adc a x", "adc a x", "adc a y", "=>", "adc a 0+x+y", "adc a 0+x"),
    text("adc a 0", "=>"),
    text("adc a y", "neg b", "adc a y", "neg b", "=>", "adc a 0+y", "adc a 0+y"),
    text("mov a b", "mov b a", "=>", "mov a b"),
    text("mov a b", "mov a c", "=>", "mov a c"),
    text("set a x", "neg a", "=>", "set a 0-x"),
    text("set a x", "add b a", "=>", "set a 0+x", "adc b 0+x"),
    text("set a x", "sub b a", "=>", "set a 0+x", "adc b 0-x"),
    text("add a b", "sub a b", "=>"),
    text("sub a a", "=>", "set a 0"),
    text("swp a b", "swp b a", "=>"),
    text("swp a b", "swp c d", "swp a b", "=>", "swp c d"),
    text("neg b", "add a b", "neg b", "=>", "sub a b"),
)


# A second reckoning, written another way: a state is a dict, a line is gone through word by word.

def go_on(line, state):
    """Change a state (a dict from a word to its number) as a line does."""
    word, first, *more = line.split(" ")
    second = more[0] if more else "none"
    value = state[second] if second in state else worth(second, state)
    if word == "swp":
        state[first], state[second] = state[second], state[first]
        return
    before = state[first]
    state[first] = {
        "set": value, "mov": value, "add": before + value, "adc": before + value, "sub": before - value,
        "neg": -before,
    }[word] % SIZE


def worth(second, state):
    """What a constant comes to; x and y stand in the state behind a sign."""
    if second == "none":
        return 0
    for letter in "xy":
        second = second.replace(letter, str(state.get("=" + letter, 0)))
    total = 0
    for piece in second.replace("-", "+-").split("+"):
        total += int(piece)
    return total % SIZE


def outcome(lines, state):
    """The state that lines come to."""
    state = dict(state)
    for line in lines:
        go_on(line, state)
    return state


def machine_outcome(code_text, numbers):
    """The eight numbers that code comes to from eight numbers."""
    start = {f"r{j}": number for j, number in enumerate(numbers)}
    reached = outcome(code_text.splitlines(), start)
    return [reached[f"r{j}"] for j in range(8)]


def cost(lines):
    return sum(COST[line.split(" ")[0]] for line in lines)


def trial_outcome(lines, six):
    start = dict(zip("abcd", six))
    return outcome(lines, {**start, "=x": six[4], "=y": six[5]})


def seven_trials():
    return [[0] * 6] + [[int(i == j) for j in range(6)] for i in range(6)]


def sides(rule_text):
    lines = rule_text.splitlines()
    middle = lines.index("=>")
    return lines[:middle], lines[middle + 1:]


def told_of_rule(rule_text):
    """What judge is to answer of a rule that can be read."""
    left, right = sides(rule_text)
    parts = [set(w for line in side for w in line.replace("+", " ").replace("-", " ").split(" ")[1:] if not w.isdigit())
             for side in (left, right)]
    if not 1 <= len(left) <= 4 or len(right) > len(left) or not parts[1] <= parts[0]:
        return [-2]
    if cost(right) >= cost(left):
        return [-4]
    for six in seven_trials():
        if trial_outcome(left, six) != trial_outcome(right, six):
            return [-3] + six
    return [0, cost(left), cost(right)]


def filled(lines, places, x, y):
    """A side as lines of the machine."""
    told = []
    for line in lines:
        word, first, *more = line.split(" ")
        tail = [str(worth(m, {"=x": x, "=y": y})) if TAIL[word] == "k" else f"r{places[m]}" for m in more]
        told.append(" ".join([word, f"r{places[first]}", *tail]))
    return told


def all_fits(rule_text, code_text, place):
    """Each way to put registers and numbers so that the left side becomes the code there, tried one by one."""
    left, right = sides(rule_text)
    there = code_text.splitlines()[place:place + len(left)]
    if [line.split(" ")[0] for line in there] != [line.split(" ")[0] for line in left]:
        return []
    words = [w for line in left for w in line.split(" ")[1:]]
    names = sorted(set(words) & set("abcd"))
    numbers = sorted({int(line.split(" ")[2]) for line in there if TAIL[line.split(" ")[0]] == "k"} | {0})
    found = []
    for put_there in itertools.permutations(range(8), len(names)):
        places = dict(zip(names, put_there))
        for x in numbers if "x" in words else [0]:
            for y in numbers if "y" in words else [0]:
                if filled(left, places, x, y) == there:
                    found.append(([places.get(n, 8) for n in "abcd"] + [x, y], filled(right, places, x, y)))
    return found


def nine_states():
    return [[0] * 8] + [[int(i == j) for j in range(8)] for i in range(8)]


def told_of_two(one, other):
    """What same is to answer of two codes' texts."""
    for numbers in nine_states():
        if machine_outcome(one, numbers) != machine_outcome(other, numbers):
            return [0] + numbers
    return [1]


def random_line(dice, names, constants):
    word = dice.choice(list(COST))
    tail = {"k": [dice.choice(constants)], "r": [dice.choice(names)], "": []}[TAIL[word]]
    return " ".join([word, dice.choice(names), *tail])


def code_near(throw, rule_text):
    """Code in which the rule's left side stands, more or less."""
    names = [f"r{j}" for j in throw.sample(range(8), throw.randrange(2, 5))]
    numbers = ["0", "1", str(LARGEST)]
    left = rule_text[:rule_text.index("=>")]
    letters = {n: throw.choice(names) for n in "abcd"} | {n: throw.choice(numbers) for n in "xy"}
    lines = [" ".join([line.split(" ")[0]] + [letters.get(w, w) for w in line.split(" ")[1:]])
             for line in left.splitlines()]
    before = [random_line(throw, names, numbers) for _ in range(throw.randrange(2))]
    behind = [random_line(throw, names, numbers) for _ in range(throw.randrange(2))]
    return text(*before, *lines, *behind)


def dice(seed):
    """The same throws whenever a test is run."""
    return random.Random(seed)
