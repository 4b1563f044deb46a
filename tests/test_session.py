"""Promise 8, the calls state, undo and redo, and all calls together against a second session."""

import unittest

from helper import LARGEST, RULES, SIZE, TWICE, all_fits, at, code, code_near, cost, cut, dice, drop, evaluated, fits
from helper import form, judge, load, machine_outcome, put, redo, rule, run, same, say, state, step, talk, text
from helper import told_of_rule, told_of_two, told_text, trail, undo

NO_MOVE = text("mov a a", "=>")
PAIRS = text("neg r0", "neg r0", "mov r1 r1", "neg r2", "neg r2")
LOOK = (code(), trail(), state())


def looks(there, worked, undoable, redoable, *numbers):
    """What the calls of LOOK are to answer."""
    lines = there.splitlines()
    pairs = [number for pair in worked for number in pair]
    return [told_text(there), [len(worked)] + pairs, [0, len(lines), cost(lines), undoable, redoable, *numbers]]


def line_of(number):
    return f"set r0 {number}\n"


class State(unittest.TestCase):
    def test_at_first(self):
        self.assertEqual(talk(state()), [[0, 0, 0, 0, 0]])

    def test_what_it_tells(self):
        self.assertEqual(talk(load(PAIRS), state(), rule(TWICE), state(), rule(NO_MOVE), state(), run(), state(),
                              undo(), state(), undo(), state())[1::2],
                         [[0, 5, 9, 1, 0], [0, 5, 9, 1, 0, 0], [0, 5, 9, 1, 0, 0, 1], [0, 0, 0, 2, 0, 0, 1],
                          [0, 5, 9, 1, 1, 0, 1], [0, 0, 0, 0, 2, 0, 1]])

    def test_numbers_of_rules_rise(self):
        held = [rule(TWICE)] * 5
        self.assertEqual(talk(*held, drop(1), drop(3), state(), rule(NO_MOVE), state(), drop(0), state(), rule(TWICE),
                              state(), rule(TWICE), rule(TWICE), state())[7:],
                         [[0, 0, 0, 0, 0, 0, 2, 4], [1], [0, 0, 0, 0, 0, 0, 1, 2, 4], [0], [0, 0, 0, 0, 0, 1, 2, 4],
                          [0], [0, 0, 0, 0, 0, 0, 1, 2, 4], [3], [5], [0, 0, 0, 0, 0, 0, 1, 2, 3, 4, 5]])
        self.assertEqual(talk(*[rule(TWICE)] * 32, drop(31), drop(0), state())[-1],
                         [0, 0, 0, 0, 0] + list(range(1, 31)))

    def test_it_changes_nothing(self):
        self.assertEqual(talk(rule(TWICE), load(PAIRS), step(), undo(), state(), state(), *LOOK, redo())[4:],
                         [[0, 5, 9, 1, 1, 0]] * 2 + looks(PAIRS, [], 1, 1, 0) + [[0]])


class Undo(unittest.TestCase):
    given = (rule(TWICE), rule(NO_MOVE), load(PAIRS))

    def test_there_is_none(self):
        self.assertEqual(talk(undo(), redo(), *LOOK), [[-3], [-3]] + looks("", [], 0, 0))
        self.assertEqual(talk(load(PAIRS), redo(), undo(), undo(), redo(), redo(), *LOOK)[1:],
                         [[-3], [0], [-3], [0], [-3]] + looks(PAIRS, [], 1, 0))
        self.assertEqual(talk(rule(TWICE), undo(), drop(0), undo()), [[0], [-3], [0], [-3]])

    def test_of_each_edit(self):
        left = text("mov r1 r1", "neg r2", "neg r2")
        for call, after, worked in ((load("neg r7\n"), "neg r7\n", []), (load(""), "", []),
                                    (put(5, "set r1 1"), PAIRS + "set r1 1\n", []), (cut(0), PAIRS[7:], []),
                                    (at(0, 0), left, [(0, 0)]), (step(), left, [(0, 0)]),
                                    (run(), "", [(0, 0), (1, 0), (0, 0)])):
            told = talk(*self.given, call, *LOOK, undo(), *LOOK, redo(), *LOOK, undo(), *LOOK)[4:]
            with_edit = looks(after, worked, 2, 0, 0, 1)
            without = looks(PAIRS, [], 1, 1, 0, 1)
            self.assertEqual(told, with_edit + [[0]] + without + [[0]] + with_edit + [[0]] + without, call)

    def test_the_trail_is_as_it_was(self):
        left = text("mov r1 r1", "neg r2", "neg r2")
        for call, after, worked in ((load("neg r7\n"), "neg r7\n", []), (load(left), left, []),
                                    (put(0, "neg r7"), "neg r7\n" + left, []), (cut(2), left[:-7], []),
                                    (at(0, 1), left[:10], [(0, 0), (0, 1)]), (step(), left[10:], [(0, 0), (1, 0)]),
                                    (run(), "", [(0, 0), (1, 0), (0, 0)])):
            told = talk(*self.given, at(0, 0), call, *LOOK, undo(), *LOOK, redo(), *LOOK)[5:]
            with_edit = looks(after, worked, 3, 0, 0, 1)
            self.assertEqual(told, with_edit + [[0]] + looks(left, [(0, 0)], 2, 1, 0, 1) + [[0]] + with_edit, call)

    def test_what_changes_neither_code_nor_trail_is_no_edit(self):
        for call, answer in ((load(PAIRS), [0, 5, 9]), (run(), [0]), (step(), [-5])):
            told = talk(load("neg r1\n"), load(PAIRS), load("neg r2\n"), undo(), call, *LOOK, redo(), code())[4:]
            self.assertEqual(told, [answer] + looks(PAIRS, [], 2, 1) + [[0], told_text("neg r2\n")], call)
        self.assertEqual(talk(load(""), run(), *LOOK, undo())[1:], [[0]] + looks("", [], 0, 0) + [[-3]])

    def test_what_takes_the_trail_alone_is_an_edit(self):
        left = text("mov r1 r1", "neg r2", "neg r2")
        self.assertEqual(talk(*self.given, step(), load(left), *LOOK, load(left), *LOOK, undo(), *LOOK)[4:],
                         [[0, 3, 5]] + looks(left, [], 3, 0, 0, 1) + [[0, 3, 5]] + looks(left, [], 3, 0, 0, 1)
                         + [[0]] + looks(left, [(0, 0)], 2, 1, 0, 1))
        self.assertEqual(talk(*self.given, step(), run(), load(""), *LOOK, undo(), *LOOK, undo(), *LOOK)[5:],
                         [[0, 0, 0]] + looks("", [], 4, 0, 0, 1) + [[0]]
                         + looks("", [(0, 0), (1, 0), (0, 0)], 3, 1, 0, 1) + [[0]]
                         + looks(left, [(0, 0)], 2, 2, 0, 1))

    def test_run_is_one_edit(self):
        held = [rule(text("swp a a", "=>", "adc a 0")), rule(text("adc a 0", "=>"))]
        full = "swp r0 r0\n" * 128
        told = talk(*held, load(full), run(), *LOOK, undo(), *LOOK, undo(), *LOOK)[3:]
        done = [pair for _ in range(128) for pair in ((0, 0), (1, 0))]
        self.assertEqual(told, [[256]] + looks("", done, 2, 0, 0, 1) + [[0]] + looks(full, [], 1, 1, 0, 1) + [[0]]
                         + looks("", [], 0, 2, 0, 1))

    def test_rules_stay(self):
        left = text("mov r1 r1", "neg r2", "neg r2")
        self.assertEqual(talk(*self.given, step(), rule(TWICE), undo(), *LOOK, redo(), *LOOK)[4:],
                         [[2], [0]] + looks(PAIRS, [], 1, 1, 0, 1, 2) + [[0]] + looks(left, [(0, 0)], 2, 0, 0, 1, 2))
        self.assertEqual(talk(*self.given, step(), drop(0), undo(), *LOOK, redo(), *LOOK, say(0), say(1))[4:],
                         [[0], [0]] + looks(PAIRS, [], 1, 1, 1) + [[0]] + looks(left, [(0, 0)], 2, 0, 1)
                         + [[-3], told_text(NO_MOVE)])
        self.assertEqual(talk(*self.given, step(), undo(), drop(0), rule(NO_MOVE), redo(), step(), *LOOK)[5:],
                         [[0], [0], [0], [0, 0, 0]] + looks(left[10:], [(0, 0), (0, 0)], 3, 0, 0, 1))

    def test_an_undone_edit_is_made_again_as_it_was_then(self):
        told = talk(*self.given, run(), undo(), drop(1), redo(), *LOOK, undo(), run(), *LOOK)[4:]
        self.assertEqual(told, [[0], [0], [0]] + looks("", [(0, 0), (1, 0), (0, 0)], 2, 0, 0)
                         + [[0], [2]] + looks("mov r1 r1\n", [(0, 0), (0, 1)], 2, 0, 0))

    def test_15_16_and_17_edits(self):
        for count in (1, 2, 15, 16, 17, 18, 30):
            edits = [load(line_of(j)) for j in range(count)]
            most = min(count, 16)
            told = talk(*edits, *[undo()] * most, *LOOK, undo(), *LOOK, redo(), code())[count:]
            there = "" if count <= 16 else line_of(count - 17)
            self.assertEqual(told, [[0]] * most + looks(there, [], 0, most) + [[-3]] + looks(there, [], 0, most)
                             + [[0], told_text(line_of(count - most))], count)

    def test_every_one_of_16_is_told_as_it_was(self):
        edits = [load(line_of(j)) for j in range(17)]
        told = talk(*edits, *[call for _ in range(17) for call in (undo(), code())])[17:]
        self.assertEqual(told, [answer for j in reversed(range(16)) for answer in ([0], told_text(line_of(j)))]
                         + [[-3], told_text(line_of(0))])
        told = talk(*edits, *[undo()] * 16, *[call for _ in range(15) for call in (redo(), code())])[33:]
        self.assertEqual(told, [answer for j in range(1, 16) for answer in ([0], told_text(line_of(j)))])
        told = talk(*edits, *[undo()] * 16, *[redo()] * 17, *LOOK)[33:]
        self.assertEqual(told, [[0]] * 16 + [[-3]] + looks(line_of(16), [], 16, 0))

    def test_what_a_seventeenth_edit_took_stays_away(self):
        edits = [load(line_of(j)) for j in range(17)]
        told = talk(*edits, undo(), undo(), load("neg r0\n"), state(), *[undo()] * 15, *LOOK, undo())[17:]
        self.assertEqual(told, [[0], [0], [0, 1, 2], [0, 1, 2, 15, 0]] + [[0]] * 15
                         + looks(line_of(0), [], 0, 15) + [[-3]])
        told = talk(*edits, *[undo()] * 16, load("neg r0\n"), undo(), undo(), *LOOK)[33:]
        self.assertEqual(told, [[0, 1, 2], [0], [-3]] + looks(line_of(0), [], 0, 1))

    def test_an_edit_while_fewer_than_16_can_be_undone_takes_none(self):
        edits = [load(line_of(j)) for j in range(16)]
        told = talk(*edits, undo(), load("neg r0\n"), *[undo()] * 16, *LOOK, undo())[16:]
        self.assertEqual(told, [[0], [0, 1, 2]] + [[0]] * 16 + looks("", [], 0, 16) + [[-3]])

    def test_no_edit_while_16_can_be_undone_takes_none(self):
        edits = [load(line_of(j)) for j in range(16)]
        told = talk(*edits, load(line_of(15)), run(), cut(9), rule(TWICE), *[undo()] * 16, *LOOK)[20:]
        self.assertEqual(told, [[0]] * 16 + looks("", [], 0, 16, 0))


class Redo(unittest.TestCase):
    given = (rule(TWICE), rule(NO_MOVE), load(PAIRS))

    def test_an_edit_takes_what_can_be_done_again(self):
        for call in (load("neg r7\n"), put(0, "neg r7"), cut(4), at(0, 3), step(), run()):
            told = talk(*self.given, load("neg r1\n"), cut(0), undo(), undo(), call, redo(), state())
            self.assertEqual(told[5:7], [[0], [0]])
            self.assertGreaterEqual(told[7][0], 0)
            self.assertEqual(told[8], [-3], call)
            self.assertEqual(told[9][3:5], [2, 0], call)

    def test_what_is_no_edit_leaves_it(self):
        for call in (load(PAIRS), code(), judge(TWICE), rule(TWICE), rule("no"), drop(0), say(0), fits(0, 0), trail(),
                     evaluated([1] * 8), form(1), same("neg r0\n"), state(), evaluated([]), form(8), same("no"),
                     load("no\n"), load("neg r0"), load("neg r0\n" * 129), load("x" * 4097), put(6, "neg r0"),
                     put(0, "no"), put(0, "x" * 4097), cut(5), cut(LARGEST), at(2, 0), at(0, 1), drop(9), say(9)):
            told = talk(*self.given, load("neg r7\n"), undo(), call, state(), redo(), code())
            self.assertEqual(told[6][3:5], [1, 1], call)
            self.assertEqual(told[7:], [[0], told_text("neg r7\n")], call)

    def test_run_and_step_without_rules_leave_it(self):
        told = talk(load(PAIRS), load("neg r7\n"), undo(), run(), step(), redo(), code())[3:]
        self.assertEqual(told, [[0], [-5], [0], told_text("neg r7\n")])

    def test_a_refused_put_into_full_code_leaves_it(self):
        full = "neg r0\n" * 128
        told = talk(load(full), load(""), undo(), put(0, "neg r1"), redo(), *LOOK)[2:]
        self.assertEqual(told, [[0], [-9], [0]] + looks("", [], 2, 0))

    def test_undo_and_redo_by_turns(self):
        edits = [load(line_of(j)) for j in range(3)]
        told = talk(*edits, undo(), redo(), undo(), redo(), *LOOK)[3:]
        self.assertEqual(told, [[0]] * 4 + looks(line_of(2), [], 3, 0))
        told = talk(*edits, undo(), undo(), redo(), undo(), undo(), *LOOK, undo(), redo(), redo(), *LOOK, redo(), *LOOK,
                    redo())[3:]
        self.assertEqual(told, [[0]] * 5 + looks("", [], 0, 3) + [[-3], [0], [0]] + looks(line_of(1), [], 2, 1)
                         + [[0]] + looks(line_of(2), [], 3, 0) + [[-3]])

    def test_an_edit_undone_after_an_undo(self):
        told = talk(load(line_of(0)), load(line_of(1)), undo(), load(line_of(2)), undo(), *LOOK, redo(), *LOOK, undo(),
                    undo(), *LOOK)[2:]
        self.assertEqual(told, [[0], [0, 1, 1], [0]] + looks(line_of(0), [], 1, 1) + [[0]]
                         + looks(line_of(2), [], 2, 0) + [[0], [0]] + looks("", [], 0, 2))

    def test_edits_go_on_from_what_was_undone(self):
        told = talk(*self.given, step(), put(0, "neg r7"), undo(), step(), trail(), undo(), step(), trail())[5:]
        self.assertEqual(told, [[0], [0, 1, 0], [2, 0, 0, 1, 0], [0], [0, 1, 0], [2, 0, 0, 1, 0]])
        told = talk(*self.given, put(0, "set r7 1"), undo(), step(), undo(), code(), redo(), code(), trail())[4:]
        left = text("mov r1 r1", "neg r2", "neg r2")
        self.assertEqual(told, [[0], [0, 0, 0], [0], told_text(PAIRS), [0], told_text(left), [1, 0, 0]])


class Second:
    """A second session: all moments in a row, one of them the present, and the oldest that can be gone back to."""

    def __init__(self):
        self.moments = [("", [])]
        self.present = 0
        self.oldest = 0
        self.held = {}

    def now(self):
        return self.moments[self.present]

    def lines(self):
        return self.now()[0].splitlines()

    def size(self):
        return [0, len(self.lines()), cost(self.lines())]

    def become(self, there, worked):
        if (there, worked) != self.now():
            self.moments = self.moments[:self.present + 1] + [(there, worked)]
            self.present += 1
            self.oldest = max(self.oldest, self.present - 16)
        return self.size()

    def load(self, there):
        if there.count("\n") > 128:
            return [-9]
        return self.become(there, [])

    def put(self, i, line):
        if i > len(self.lines()):
            return [-1]
        if len(self.lines()) == 128:
            return [-9]
        return self.become(text(*self.lines()[:i], line, *self.lines()[i:]), [])

    def cut(self, i):
        if i >= len(self.lines()):
            return [-3]
        return self.become(text(*self.lines()[:i], *self.lines()[i + 1:]), [])

    def rule(self, given):
        answer = told_of_rule(given)
        if answer[0] != 0:
            return answer
        if len(self.held) == 32:
            return [-9]
        number = min(k for k in range(32) if k not in self.held)
        self.held[number] = given
        return [number]

    def drop(self, k):
        return [-3] if self.held.pop(k, None) is None else [0]

    def found(self, k, i):
        return all_fits(self.held[k], self.now()[0], i)

    def fits(self, k, i):
        if k not in self.held:
            return [-3]
        found = self.found(k, i)
        return [0] + found[0][0] if found else [-5]

    def at(self, k, i):
        answer = self.fits(k, i)
        if answer[0] != 0:
            return answer
        there, worked = self.worked_at(k, i)
        return self.become(there, worked)

    def worked_at(self, k, i):
        length = self.held[k].splitlines().index("=>")
        right = self.found(k, i)[0][1]
        return text(*self.lines()[:i], *right, *self.lines()[i + length:]), self.now()[1] + [(k, i)]

    def next_step(self):
        for i in range(len(self.lines())):
            for k in sorted(self.held):
                if self.found(k, i):
                    return [k, i]
        return None

    def step(self):
        found = self.next_step()
        if found is None:
            return [-5]
        self.become(*self.worked_at(*found))
        return [0] + found

    def run(self):
        # Steps on a session of its own, as a run is one edit.
        other = Second()
        other.held = self.held
        other.moments = [self.now()]
        count = 0
        while other.step() != [-5]:
            count += 1
        self.become(*other.now())
        return [count]

    def undo(self):
        if self.present == self.oldest:
            return [-3]
        self.present -= 1
        return [0]

    def redo(self):
        if self.present + 1 == len(self.moments):
            return [-3]
        self.present += 1
        return [0]

    def trail(self):
        return [len(self.now()[1])] + [number for pair in self.now()[1] for number in pair]

    def state(self):
        return self.size() + [self.present - self.oldest, len(self.moments) - 1 - self.present] + sorted(self.held)


class Together(unittest.TestCase):
    def random_call(self, throw):
        """A call, and what a second session is to be asked."""
        there = "".join(code_near(throw, throw.choice(RULES)) for _ in range(throw.randrange(5)))
        line = throw.choice(["neg r0", "neg r1", "mov r2 r2", "set r0 4294967295"])
        i = throw.randrange(7)
        k = throw.randrange(5)
        numbers = [throw.randrange(SIZE) for _ in range(8)]
        given = throw.choice(RULES + (text("neg a", "=>"), text("neg a", "=>", "set b 0")))
        choices = [(4, load(there), lambda s: s.load(there)), (3, put(i, line), lambda s: s.put(i, line)),
                   (3, cut(i), lambda s: s.cut(i)), (8, rule(given), lambda s: s.rule(given)),
                   (1, drop(k), lambda s: s.drop(k)), (4, fits(k, i), lambda s: s.fits(k, i)),
                   (6, at(k, i), lambda s: s.at(k, i)), (6, step(), Second.step), (3, run(), Second.run),
                   (8, undo(), Second.undo), (5, redo(), Second.redo), (4, state(), Second.state),
                   (3, trail(), Second.trail), (3, code(), lambda s: told_text(s.now()[0])),
                   (2, evaluated(numbers), lambda s: [0] + machine_outcome(s.now()[0], numbers)),
                   (2, same(there), lambda s: told_of_two(s.now()[0], there))]
        return throw.choice([(call, ask) for weight, call, ask in choices for _ in range(weight)])

    def test_all_calls_in_any_order(self):
        throw = dice(41)
        seen = {}
        for _ in range(300):
            drawn = [self.random_call(throw) for _ in range(64)]
            second = Second()
            wanted = [ask(second) for call, ask in drawn]
            told = talk(*[call for call, ask in drawn])
            self.assertEqual(told, wanted, drawn)
            for (call, ask), answer in zip(drawn, told):
                seen[call[0], min(answer[0], 2)] = True
        for pair in ((3, -3), (8, -5), (8, 0), (9, 0), (10, 0), (10, -5), (11, 2), (17, 0), (17, -3), (18, 0), (18, -3),
                     (15, 0), (5, -3), (5, -2)):
            self.assertIn(pair, seen)

    def test_edits_and_undos_alone(self):
        throw = dice(42)
        most = 0
        for _ in range(300):
            second = Second()
            calls = []
            wanted = []
            for _ in range(63):
                there = line_of(throw.randrange(3))
                call, ask = throw.choice([(load(there), lambda s: s.load(there))] * throw.choice([1, 3, 9])
                                         + [(undo(), Second.undo)] * throw.choice([1, 3]) + [(redo(), Second.redo)])
                calls.append(call)
                wanted.append(ask(second))
                most = max(most, second.present - second.oldest)
            self.assertEqual(talk(*calls, state()), wanted + [second.state()])
        self.assertEqual(most, 16)


if __name__ == "__main__":
    unittest.main()
