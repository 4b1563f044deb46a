"""Promises 5, 6 and 7 (of same), and the calls eval, form and same."""

import unittest

from helper import LARGEST, RULES, SIZE, TWICE, at, code, dice, evaluated, form, last, load, machine_outcome
from helper import nine_states, random_line, rule, run, same, state, talk, text, told_of_two, told_text, trail

ALL = text("set r0 7", "mov r1 r2", "add r3 r4", "sub r5 r6", "adc r7 9", "neg r4", "swp r1 r6")
SUM = text("add r0 r1", "add r0 r2", "add r0 r3", "add r0 r4", "add r0 r5", "add r0 r6", "add r0 r7")
NAMES = [f"r{j}" for j in range(8)]
NUMBERS = ["0", "1", "2", "7", "2147483648", str(LARGEST)]


def unit(j, number=1):
    return [number if i == j else 0 for i in range(8)]


def random_code(throw, most):
    return text(*[random_line(throw, NAMES, NUMBERS) for _ in range(throw.randrange(most + 1))])


class Eval(unittest.TestCase):
    def test_ordinary(self):
        self.assertEqual(last(load(ALL), evaluated([1, 2, 3, 4, 5, 6, 8, 9])),
                         [0, 7, 8, 3, 9, SIZE - 5, SIZE - 2, 3, 18])
        self.assertEqual(last(evaluated([1, 2, 3, 4, 5, 6, 7, 8])), [0, 1, 2, 3, 4, 5, 6, 7, 8])
        self.assertEqual(last(load(""), evaluated([LARGEST] * 8)), [0] + [LARGEST] * 8)

    def test_each_instruction(self):
        here = [10, 20, 30, 40, 50, 60, 70, 80]
        for line, first, second in (("set r0 5", 5, 20), ("mov r0 r1", 20, 20), ("add r0 r1", 30, 20),
                                    ("sub r0 r1", SIZE - 10, 20), ("adc r0 5", 15, 20), ("neg r0", SIZE - 10, 20),
                                    ("swp r0 r1", 20, 10), ("mov r0 r0", 10, 20), ("add r0 r0", 20, 20),
                                    ("sub r0 r0", 0, 20), ("swp r0 r0", 10, 20), ("mov r1 r0", 10, 10),
                                    ("sub r1 r0", 10, 10), ("add r1 r0", 10, 30), ("swp r1 r0", 20, 10)):
            self.assertEqual(last(load(line + "\n"), evaluated(here)), [0, first, second] + here[2:], line)

    def test_other_than_eight_numbers(self):
        for length in (0, 1, 7, 9, 12):
            self.assertEqual(talk(load(ALL), evaluated([1] * length), code())[1:], [[-1], told_text(ALL)])
            self.assertEqual(last(evaluated([LARGEST] * length)), [-1])
        self.assertEqual(last(evaluated([1] * 8)), [0] + [1] * 8)

    def test_at_the_edge_of_the_numbers(self):
        for line, first in (("add r0 r1", LARGEST - 1), ("add r0 r0", LARGEST - 1), ("adc r0 1", 0),
                            ("adc r0 4294967295", LARGEST - 1), ("neg r0", 1), ("sub r0 r1", 0),
                            ("set r0 4294967295", LARGEST), ("sub r0 r0", 0)):
            self.assertEqual(last(load(line + "\n"), evaluated([LARGEST] * 8)), [0, first] + [LARGEST] * 7, line)
        self.assertEqual(last(load("neg r0\n"), evaluated([0] * 8)), [0] + [0] * 8)
        self.assertEqual(last(load("neg r0\n"), evaluated(unit(0, 2147483648))), [0] + unit(0, 2147483648))
        self.assertEqual(last(load("sub r0 r1\n"), evaluated(unit(1))), [0, LARGEST, 1, 0, 0, 0, 0, 0, 0])
        self.assertEqual(last(load("add r0 r0\n" * 32), evaluated(unit(0, LARGEST))), [0] + [0] * 8)
        self.assertEqual(last(load("add r0 r0\n" * 31), evaluated(unit(0, LARGEST))), [0] + unit(0, 2147483648))

    def test_many_codes(self):
        throw = dice(31)
        for _ in range(200):
            there = random_code(throw, 60)
            numbers = [throw.choice([0, 1, LARGEST, throw.randrange(SIZE)]) for _ in range(8)]
            self.assertEqual(last(load(there), evaluated(numbers)), [0] + machine_outcome(there, numbers), there)

    def test_it_changes_nothing(self):
        numbers = list(range(8))
        self.assertEqual(talk(load(ALL), evaluated(numbers), evaluated(numbers), code(), state())[2:],
                         [[0] + machine_outcome(ALL, numbers), told_text(ALL), [0, 7, 16, 1, 0]])


class Form(unittest.TestCase):
    def test_ordinary(self):
        told = talk(load(ALL), *[form(r) for r in range(8)])[1:]
        self.assertEqual(told[0], [0] + [0] * 8 + [7])
        self.assertEqual(told[1], [0] + unit(6) + [0])
        self.assertEqual(told[2], [0] + unit(2) + [0])
        self.assertEqual(told[3], [0, 0, 0, 0, 1, 1, 0, 0, 0, 0])
        self.assertEqual(told[4], [0] + unit(4, LARGEST) + [0])
        self.assertEqual(told[5], [0, 0, 0, 0, 0, 0, 1, LARGEST, 0, 0])
        self.assertEqual(told[6], [0] + unit(2) + [0])
        self.assertEqual(told[7], [0] + unit(7) + [9])

    def test_of_no_instructions(self):
        self.assertEqual(talk(*[form(r) for r in range(8)]), [[0] + unit(r) + [0] for r in range(8)])

    def test_registers_that_are_none(self):
        for r in (8, 9, 255, LARGEST):
            self.assertEqual(talk(form(r), load(ALL), form(r), code()), [[-1], [0, 7, 16], [-1], told_text(ALL)])
        self.assertEqual(last(load(ALL), form(7)), [0] + unit(7) + [9])

    def test_sums_are_told_below_2_to_the_32(self):
        self.assertEqual(last(load("add r0 r0\n" * 31), form(0)), [0] + unit(0, 2147483648) + [0])
        self.assertEqual(last(load("add r0 r0\n" * 32), form(0)), [0] + [0] * 9)
        self.assertEqual(last(load("adc r0 4294967295\n" * 2), form(0)), [0] + unit(0) + [LARGEST - 1])
        self.assertEqual(last(load("adc r7 1\nneg r7\n"), form(7)), [0] + unit(7, LARGEST) + [LARGEST])
        self.assertEqual(last(load("adc r0 3\nsub r1 r0\nsub r1 r0\n"), form(1)),
                         [0, LARGEST - 1, 1, 0, 0, 0, 0, 0, 0, SIZE - 6])
        self.assertEqual(last(load("set r0 4294967295\nadd r1 r0\n"), form(1)), [0] + unit(1) + [LARGEST])

    def test_it_tells_what_is_so_of_every_state(self):
        throw = dice(32)
        for _ in range(100):
            there = random_code(throw, 60)
            told = talk(load(there), *[form(r) for r in range(8)], code())
            self.assertEqual(told[9], told_text(there))
            for numbers in [[throw.randrange(SIZE) for _ in range(8)] for _ in range(5)]:
                reached = machine_outcome(there, numbers)
                for r in range(8):
                    answer = told[r + 1]
                    self.assertEqual([answer[0], len(answer)], [0, 10])
                    self.assertTrue(all(0 <= number < SIZE for number in answer))
                    worth = sum(k * number for k, number in zip(answer[1:], numbers + [1]))
                    self.assertEqual(worth % SIZE, reached[r], there)


class Same(unittest.TestCase):
    def told(self, one, other, answer):
        self.assertEqual(told_of_two(one, other), answer)
        self.assertEqual(talk(load(one), same(other), code())[1:], [answer, told_text(one)])
        self.assertEqual(last(load(other), same(one)), answer)

    def test_codes_that_do_the_same(self):
        self.told("", "", [1])
        self.told(ALL, ALL, [1])
        self.told(text("neg r0", "neg r0"), "", [1])
        self.told(text("add r0 r1"), text("neg r1", "sub r0 r1", "neg r1"), [1])
        self.told("add r0 r0\n" * 32, "set r0 0\n", [1])
        self.told("neg r0\n" * 128, "mov r7 r7\n" * 128, [1])
        self.told("set r0 4294967295\nadc r0 1\n", "set r0 0\n", [1])
        self.told("adc r3 4294967295\nadc r3 2\n", "adc r3 1\n", [1])

    def test_each_of_the_nine_states_may_be_the_first(self):
        self.told("set r0 1\n", "set r0 0\n", [0] + [0] * 8)
        self.told("adc r7 1\n", "", [0] + [0] * 8)
        for j in range(8):
            self.told(f"neg r{j}\n", "", [0] + unit(j))
            self.told(f"set r{j} 0\n", "", [0] + unit(j))
            self.told(f"add r{j} r{j}\n", "", [0] + unit(j))

    def test_only_the_first_state_tells_them_apart(self):
        one = "set r0 1\n"
        self.assertEqual([machine_outcome(one, s) == machine_outcome(SUM, s) for s in nine_states()],
                         [False] + [True] * 8)
        self.told(one, SUM, [0] + [0] * 8)

    def test_only_the_last_state_tells_them_apart(self):
        for one, other in (("mov r0 r7\n", "set r0 0\n"), ("swp r7 r6\nswp r6 r7\nneg r7\n", ""),
                           ("add r3 r7\n", ""), ("add r7 r7\n" * 31, "set r7 0\n")):
            self.assertEqual([machine_outcome(one, s) == machine_outcome(other, s) for s in nine_states()],
                             [True] * 8 + [False])
            self.told(one, other, [0] + unit(7))

    def test_every_register_is_looked_at(self):
        for j in range(8):
            self.told(f"adc r{j} 1\n", "", [0] + [0] * 8)
            self.told(f"add r{j} r{(j + 1) % 8}\n", "", [0] + unit((j + 1) % 8))

    def test_refusals(self):
        full = "neg r0\n" * 128
        self.assertEqual(talk(load(ALL), same("x" * 4097), same([10] * 4200), code())[1:],
                         [[-1], [-1], told_text(ALL)])
        for given, fault in (("no\n", 0), ("neg r0", 0), ("neg r0\nno\nno\n", 1), ("neg r0\nneg r1 ", 1),
                             ("neg r8\n", 0), (full + "neg r0\nno\n", 129), (full + "n", 128), ("x" * 4096, 0),
                             ("\n", 0), ("set r0 4294967296\n", 0), ("neg a\n", 0)):
            self.assertEqual(talk(load(ALL), same(given), code(), state())[1:],
                             [[-6, fault], told_text(ALL), [0, 7, 16, 1, 0]], given)
        self.assertEqual(talk(load(ALL), same(full + "neg r0\n"), code())[1:], [[-9], told_text(ALL)])
        self.assertEqual(last(load(""), same(full)), [1])
        self.assertEqual(last(load(""), same("set r0 4294967295\n" * 227 + "set r0 12\n")), [-9])

    def test_many_codes(self):
        throw = dice(33)
        seen = {}
        for _ in range(300):
            lines = random_code(throw, 12).splitlines()
            others = list(lines)
            if lines and throw.randrange(3):
                others[throw.randrange(len(lines))] = random_line(throw, NAMES, NUMBERS)
            place = throw.randrange(len(others) + 1)
            others[place:place] = throw.choice([["neg r1", "neg r1"], ["swp r2 r5", "swp r5 r2"], ["mov r6 r6"]])
            self.told(text(*lines), text(*others), told_of_two(text(*lines), text(*others)))
            seen[last(load(text(*lines)), same(text(*others)))[0]] = True
        self.assertEqual(sorted(seen), [0, 1])

    def test_what_is_told_of_states_holds(self):
        throw = dice(34)
        for _ in range(100):
            one = random_code(throw, 5)
            other = random_code(throw, 5)
            answer = last(load(one), same(other))
            if answer == [1]:
                for numbers in [[throw.randrange(SIZE) for _ in range(8)] for _ in range(5)]:
                    self.assertEqual(machine_outcome(one, numbers), machine_outcome(other, numbers))
            else:
                self.assertEqual(talk(load(one), evaluated(answer[1:]), load(other), evaluated(answer[1:]))[1::2],
                                 [[0] + machine_outcome(code_text, answer[1:]) for code_text in (one, other)])
                self.assertNotEqual(machine_outcome(one, answer[1:]), machine_outcome(other, answer[1:]))

    def test_rewritten_code_does_the_same(self):
        throw = dice(35)
        for _ in range(50):
            there = random_code(throw, 40) + "neg r2\nneg r2\nmov r1 r1\n"
            held = [rule(given) for given in RULES]
            told = talk(*held, load(there), run(), same(there), trail())
            self.assertGreater(told[-3][0], 1)
            self.assertEqual(told[-2], [1])
        self.assertEqual(talk(rule(TWICE), load("neg r1\nneg r1\nneg r0\n"), at(0, 0), same("neg r0\n"),
                              same("neg r1\n"))[3:], [[1], [0] + unit(0)])


if __name__ == "__main__":
    unittest.main()
