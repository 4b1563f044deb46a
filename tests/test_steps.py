"""Promises 1, 3 and 4 of the calls step and run, and the trail."""

import unittest

from helper import LARGEST, RULES, SIZE, TWICE, all_fits, at, code, code_near, cost, cut, dice, drop, fits, last, load
from helper import machine_outcome, put, rule, run, state, step, talk, text, told_text, trail

NO_MOVE = text("mov a a", "=>")
NO_SWAP = text("swp a a", "=>", "adc a 0")
NOTHING_ADDED = text("adc a 0", "=>", "mov a a")
SET_SET = text("set a x", "set a y", "=>", "set a 0+y")
SET_NEG = text("set a x", "neg a", "=>", "set a 0-x")
FULL = "swp r0 r0\n" * 128


def next_step(held, code_text):
    """The rule's number and the place that a step is to have, and the code after it; or None."""
    for place in range(len(code_text.splitlines())):
        for number in sorted(held):
            found = all_fits(held[number], code_text, place)
            if found:
                lines = code_text.splitlines()
                length = held[number].splitlines().index("=>")
                return [number, place], text(*lines[:place], *found[0][1], *lines[place + length:])
    return None


def all_steps(held, code_text):
    """Number and place of every step till none can be made, and the code that is left."""
    made = []
    found = next_step(held, code_text)
    while found:
        made.append(found[0])
        code_text = found[1]
        found = next_step(held, code_text)
    return made, code_text


def flat(pairs):
    return [number for pair in pairs for number in pair]


def random_code(throw, most):
    """Code in which several of RULES may fit."""
    pieces = [code_near(throw, throw.choice(RULES)) for _ in range(most)]
    return "".join(pieces[:throw.randrange(1, most + 1)])


class Step(unittest.TestCase):
    def test_ordinary(self):
        there = text("set r0 1", "neg r1", "neg r1", "neg r2")
        self.assertEqual(talk(rule(TWICE), load(there), step(), code(), trail(), step())[2:],
                         [[0, 0, 1], told_text(text("set r0 1", "neg r2")), [1, 0, 1], [-5]])

    def test_none_can_be_made(self):
        self.assertEqual(talk(step()), [[-5]])
        self.assertEqual(talk(load("neg r0\nneg r0\n"), step(), code())[1:], [[-5], told_text("neg r0\nneg r0\n")])
        self.assertEqual(talk(rule(TWICE), step()), [[0], [-5]])
        self.assertEqual(last(rule(TWICE), load("neg r0\nneg r1\n"), step()), [-5])
        self.assertEqual(last(rule(TWICE), load("neg r0\n"), step()), [-5])

    def test_the_first_of_several_places(self):
        there = text("neg r0", "mov r1 r1", "neg r2", "neg r2", "neg r2", "mov r3 r3")
        self.assertEqual(talk(rule(TWICE), load(there), step(), code())[2:],
                         [[0, 0, 2], told_text(text("neg r0", "mov r1 r1", "neg r2", "mov r3 r3"))])
        self.assertEqual(last(rule(NO_MOVE), load(there), step()), [0, 0, 1])
        self.assertEqual(last(rule(NO_MOVE), load("mov r5 r5\n"), step()), [0, 0, 0])

    def test_the_lowest_of_several_rules_at_a_place(self):
        there = text("set r0 5", "set r0 6", "neg r0")
        also = text("set a x", "set a y", "neg a", "=>", "set a 0-y")
        self.assertEqual(talk(rule(SET_SET), rule(also), load(there), step(), code())[3:],
                         [[0, 0, 0], told_text(text("set r0 6", "neg r0"))])
        self.assertEqual(talk(rule(also), rule(SET_SET), load(there), step(), code())[3:],
                         [[0, 0, 0], told_text(text("set r0 4294967290"))])
        self.assertEqual(last(rule(TWICE), rule(SET_SET), rule(also), load(there), step()), [0, 1, 0])

    def test_the_lowest_number_is_taken_though_it_was_given_last(self):
        there = text("set r0 5", "set r0 6", "neg r0")
        also = text("set a x", "set a y", "neg a", "=>", "set a 0-y")
        self.assertEqual(talk(rule(TWICE), rule(SET_SET), drop(0), rule(also), load(there), step())[3:],
                         [[0], [0, 3, 4], [0, 0, 0]])

    def test_a_place_further_front_goes_before_a_lower_number(self):
        there = text("mov r1 r1", "neg r0", "neg r0")
        self.assertEqual(talk(rule(TWICE), rule(NO_MOVE), load(there), step(), step(), step(), trail())[3:],
                         [[0, 1, 0], [0, 0, 0], [-5], [2, 1, 0, 0, 0]])
        self.assertEqual(talk(rule(NO_MOVE), rule(TWICE), load(there), step(), step(), trail())[3:],
                         [[0, 0, 0], [0, 1, 0], [2, 0, 0, 1, 0]])

    def test_a_place_further_front_comes_to_fit(self):
        there = text("neg r1", "swp r0 r0", "neg r1", "neg r2", "mov r2 r2", "neg r2")
        given = (rule(TWICE), rule(text("swp a a", "=>")), rule(NO_MOVE), load(there))
        self.assertEqual(talk(*given, step(), step(), step(), step(), step(), code(), trail())[4:],
                         [[0, 1, 1], [0, 0, 0], [0, 2, 1], [0, 0, 0], [-5], [0], [4, 1, 1, 0, 0, 2, 1, 0, 0]])
        far = text("neg r1", "neg r2", "neg r3", "neg r4", "mov r5 r5", "neg r4", "neg r3", "neg r2", "neg r1")
        self.assertEqual(talk(rule(TWICE), rule(NO_MOVE), load(far), run(), trail(), code())[3:],
                         [[5], [5, 1, 4, 0, 3, 0, 2, 0, 1, 0, 0], [0]])

    def test_a_dropped_rule_is_put_to_work_no_more(self):
        self.assertEqual(talk(rule(TWICE), rule(NO_MOVE), load(text("neg r1", "neg r1", "mov r0 r0")), drop(0), step(),
                              step(), run(), code())[3:],
                         [[0], [0, 1, 2], [-5], [0], told_text("neg r1\nneg r1\n")])

    def test_a_refusal_changes_nothing(self):
        there = text("neg r1", "neg r1", "set r0 2")
        self.assertEqual(talk(rule(TWICE), load(there), step(), step(), step(), code(), trail(), state())[2:],
                         [[0, 0, 0], [-5], [-5], told_text("set r0 2\n"), [1, 0, 0], [0, 1, 1, 2, 0, 0]])

    def test_a_step_is_what_at_would_do(self):
        throw = dice(21)
        for _ in range(100):
            there = random_code(throw, 4)
            held = {k: throw.choice(RULES) for k in range(throw.randrange(1, 5))}
            given = [rule(held[k]) for k in sorted(held)] + [load(there)]
            told = talk(*given, step(), code(), trail())[-3:]
            found = next_step(held, there)
            if found is None:
                self.assertEqual(told, [[-5], told_text(there), [0]])
                continue
            self.assertEqual(told, [[0] + found[0], told_text(found[1]), [1] + found[0]])
            self.assertEqual(talk(*given, at(*found[0]), code(), trail())[-2:], told[1:])
            self.assertEqual(last(*given, fits(*found[0]))[0], 0)


class Run(unittest.TestCase):
    def test_no_step(self):
        self.assertEqual(talk(run(), trail()), [[0], [0]])
        self.assertEqual(talk(rule(TWICE), run(), trail()), [[0], [0], [0]])
        there = text("neg r0", "neg r1")
        self.assertEqual(talk(load(there), run(), code(), rule(TWICE), run(), code(), trail())[1:],
                         [[0], told_text(there), [0], [0], told_text(there), [0]])

    def test_one_step(self):
        self.assertEqual(talk(rule(TWICE), load(text("neg r0", "neg r1", "neg r1")), run(), code(), trail(), run())[2:],
                         [[1], told_text("neg r0\n"), [1, 0, 1], [0]])

    def test_it_goes_on_from_what_was_made(self):
        there = text("set r0 1", "neg r0", "neg r1", "neg r1", "neg r0")
        self.assertEqual(talk(rule(TWICE), rule(SET_NEG), load(there), at(0, 2), run(), trail(), code())[3:],
                         [[0, 3, 5], [2], [3, 0, 2, 1, 0, 1, 0], told_text("set r0 1\n")])

    def test_very_many(self):
        held = [rule(NO_MOVE), rule(NOTHING_ADDED), rule(NO_SWAP)]
        told = talk(*held, load(FULL), run(), code(), trail(), state(), step())[4:]
        self.assertEqual(told, [[384], [0], [384] + [2, 0, 1, 0, 0, 0] * 128, [0, 0, 0, 2, 0, 0, 1, 2], [-5]])
        front = "neg r0\nneg r1\n" * 32
        told = talk(*held, load(front + FULL[:640]), run(), code(), trail())[4:]
        self.assertEqual(told, [[192], told_text(front), [192] + [2, 64, 1, 64, 0, 64] * 64])

    def test_one_rule_over_all_the_code(self):
        told = talk(rule(NO_SWAP), load(FULL), run(), code(), trail())[2:]
        self.assertEqual(told, [[128], told_text("adc r0 0\n" * 128), [128] + flat([0, i] for i in range(128))])

    def test_from_the_back_to_the_front(self):
        pairs = [f"swp r{j} r{j + 1}" for j in range(7)] * 9
        there = text(*pairs, *reversed(pairs))
        told = talk(rule(text("swp a b", "swp a b", "=>")), load(there), run(), code(), trail())[2:]
        self.assertEqual(told, [[63], [0], [63] + flat([0, i] for i in reversed(range(63)))])

    def test_with_32_rules(self):
        held = [rule(TWICE)] * 31 + [rule(NO_MOVE)]
        self.assertEqual(talk(*held, load(text("neg r3", "mov r0 r0", "neg r3")), run(), trail())[33:],
                         [[2], [2, 31, 1, 0, 0]])

    def test_no_step_is_left_and_it_does_the_same(self):
        throw = dice(22)
        most = 0
        for _ in range(100):
            there = random_code(throw, 12)
            held = {k: throw.choice(RULES) for k in range(throw.randrange(1, 20))}
            given = [rule(held[k]) for k in sorted(held)] + [load(there)]
            made, left = all_steps(held, there)
            told = talk(*given, run(), code(), trail(), step(), run(), state())[len(given):]
            self.assertEqual(told[:3], [[len(made)], told_text(left), [len(made)] + flat(made)], (there, held))
            self.assertEqual(told[3:5], [[-5], [0]])
            self.check_after(throw, there, left, told[5], made)
            most = max(most, len(made))
        self.assertGreater(most, 10)

    def check_after(self, throw, there, left, told, made):
        self.assertEqual(told[1:3], [len(left.splitlines()), cost(left.splitlines())])
        self.assertLessEqual(told[1], len(there.splitlines()))
        self.assertLessEqual(told[2], cost(there.splitlines()) - len(made))
        for numbers in ([0] * 8, [LARGEST] * 8, [throw.randrange(SIZE) for _ in range(8)]):
            self.assertEqual(machine_outcome(left, numbers), machine_outcome(there, numbers), (there, left))

    def test_run_is_step_till_none_can_be_made(self):
        throw = dice(23)
        for _ in range(50):
            there = random_code(throw, 5)
            given = [rule(throw.choice(RULES)) for _ in range(throw.randrange(1, 9))] + [load(there)]
            count = last(*given, run())[0]
            self.assertEqual(talk(*given, *[step()] * count, code(), trail(), step())[-3:],
                             talk(*given, run(), code(), trail(), step())[-3:])


class Trail(unittest.TestCase):
    there = text("neg r1", "neg r1", "mov r2 r2", "neg r3", "neg r3")
    given = (rule(TWICE), rule(NO_MOVE), load(there))

    def test_nothing_at_first(self):
        self.assertEqual(talk(trail(), rule(TWICE), trail(), *self.given, trail())[-1], [0])
        self.assertEqual(talk(trail()), [[0]])

    def test_at_step_and_run_put_theirs_at_its_end(self):
        self.assertEqual(talk(*self.given, at(0, 3), trail(), step(), trail(), run(), trail())[3:],
                         [[0, 3, 5], [1, 0, 3], [0, 0, 0], [2, 0, 3, 0, 0], [1], [3, 0, 3, 0, 0, 1, 0]])
        self.assertEqual(last(*self.given, run(), trail()), [3, 0, 0, 1, 0, 0, 0])

    def test_load_put_and_cut_leave_none(self):
        for call in (load("neg r0\n"), load(""), load(self.there), put(0, "neg r1"), put(3, "neg r1"), cut(0), cut(2)):
            self.assertEqual(talk(*self.given, step(), call, trail())[-2:][0][0], 0)
            self.assertEqual(last(*self.given, step(), call, trail()), [0], call)
            self.assertEqual(last(*self.given, step(), call, rule(NO_SWAP), load(self.there), run(), trail()),
                             [3, 0, 0, 1, 0, 0, 0])

    def test_refused_calls_leave_it(self):
        for call in (load("no\n"), load("neg r0"), load("neg r0\n" * 129), load("x" * 4097), put(0, "no"),
                     put(9, "neg r0"), put(0, "x" * 4097), cut(9), at(5, 0), at(0, 0)):
            self.assertEqual(last(*self.given, step(), call, trail()), [1, 0, 0], call)

    def test_other_calls_leave_it(self):
        for call in (rule(TWICE), rule("no"), drop(0), code(), fits(0, 0), state(), [13, 8] + [1] * 8, [14, 0],
                     [15, 0], [4, 0], [7, 0], trail()):
            self.assertEqual(last(*self.given, step(), call, trail()), [1, 0, 0], call)

    def test_it_leads_from_the_code_handed_in_to_the_code_that_is_held(self):
        throw = dice(24)
        for _ in range(50):
            there = random_code(throw, 5)
            given = [rule(throw.choice(RULES)) for _ in range(throw.randrange(1, 9))] + [load(there)]
            told = talk(*given, step(), run(), code(), trail())
            pairs = told[-1][1:]
            self.assertEqual(told[-1][0], len(pairs) // 2)
            self.assertEqual(len(pairs) // 2, told[-3][0] + (told[-4] != [-5]))
            again = [at(pairs[j], pairs[j + 1]) for j in range(0, len(pairs), 2)]
            if len(again) + len(given) < 60:
                self.assertEqual(talk(*given, *again, code(), trail())[-2:], told[-2:])


if __name__ == "__main__":
    unittest.main()
