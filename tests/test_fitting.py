"""Promises 1 and 3, and the calls fits and at."""

import unittest

from helper import LARGEST, RULES, SIZE, TWICE, all_fits, at, code, code_near, cost, dice, drop, fits, last, load
from helper import machine_outcome, put, rule, talk, text, told_text


class Fits(unittest.TestCase):
    def fit(self, rule_text, code_text, place=0):
        return last(rule(rule_text), load(code_text), fits(0, place))

    def test_registers_and_numbers_are_told(self):
        self.assertEqual(self.fit(TWICE, text("neg r5", "neg r5")), [0, 5, 8, 8, 8, 0, 0])
        both = text("set a x", "set c y", "set a 1", "=>", "set c 0+y", "set a 1")
        self.assertEqual(self.fit(both, text("set r7 9", "set r0 4294967295", "set r7 1")),
                         [0, 7, 8, 0, 8, 9, LARGEST])
        self.assertEqual(self.fit(text("adc d y", "adc d 0", "=>", "adc d 0+y"), text("adc r3 8", "adc r3 0")),
                         [0, 8, 8, 8, 3, 0, 8])
        self.assertEqual(self.fit(text("swp d c", "swp b a", "swp d c", "=>", "swp a b"),
                                  text("swp r1 r2", "swp r3 r4", "swp r1 r2")), [0, 4, 3, 2, 1, 0, 0])

    def test_one_register_under_two_names(self):
        given = text("mov a b", "mov b a", "=>", "mov a b")
        self.assertEqual(self.fit(given, text("mov r1 r2", "mov r2 r1")), [0, 1, 2, 8, 8, 0, 0])
        self.assertEqual(self.fit(given, text("mov r1 r1", "mov r1 r1")), [-5])
        apart = text("neg a", "neg b", "neg a", "neg a", "=>", "neg a", "neg b")
        self.assertEqual(self.fit(apart, text("neg r1", "neg r1", "neg r1", "neg r1")), [-5])
        self.assertEqual(self.fit(apart, text("neg r1", "neg r0", "neg r1", "neg r1")), [0, 1, 0, 8, 8, 0, 0])

    def test_one_name_over_two_registers(self):
        self.assertEqual(self.fit(TWICE, text("neg r0", "neg r1")), [-5])
        self.assertEqual(self.fit(text("mov a a", "=>"), text("mov r0 r1")), [-5])
        self.assertEqual(self.fit(text("mov a a", "=>"), text("mov r6 r6")), [0, 6, 8, 8, 8, 0, 0])

    def test_one_letter_over_two_numbers(self):
        for letter, five in (("x", [5, 0]), ("y", [0, 5])):
            given = text(f"set a {letter}", f"set b {letter}", "set a 1", "=>", f"set b 0+{letter}", "set a 1")
            self.assertEqual(self.fit(given, text("set r0 5", "set r1 5", "set r0 1")), [0, 0, 1, 8, 8] + five)
            self.assertEqual(self.fit(given, text("set r0 5", "set r1 6", "set r0 1")), [-5])
            self.assertEqual(self.fit(given, text("set r0 0", "set r1 6", "set r0 1")), [-5])
            self.assertEqual(self.fit(given, text("set r0 0", "set r1 0", "set r0 1")), [0, 0, 1, 8, 8, 0, 0])

    def test_two_letters_may_be_one_number(self):
        given = text("adc a x", "adc a y", "=>", "adc a 0+x+y")
        self.assertEqual(self.fit(given, text("adc r0 5", "adc r0 5")), [0, 0, 8, 8, 8, 5, 5])

    def test_numbers_stand_for_themselves(self):
        given = text("set a 4294967295", "adc a 1", "=>", "set a 0")
        self.assertEqual(self.fit(given, text("set r0 4294967295", "adc r0 1")), [0, 0, 8, 8, 8, 0, 0])
        for other in (text("set r0 4294967294", "adc r0 1"), text("set r0 4294967295", "adc r0 0"),
                      text("set r0 0", "adc r0 1"), text("adc r0 4294967295", "adc r0 1")):
            self.assertEqual(self.fit(given, other), [-5])

    def test_other_instructions(self):
        self.assertEqual(self.fit(text("add a b", "sub a b", "=>"), text("sub r0 r1", "add r0 r1")), [-5])
        self.assertEqual(self.fit(text("mov a a", "=>"), text("add r0 r0")), [-5])
        self.assertEqual(self.fit(text("adc a 0", "=>"), text("set r0 0")), [-5])

    def test_places(self):
        there = text("neg r0", "neg r0", "neg r1", "neg r1", "neg r1")
        told = [self.fit(TWICE, there, i) for i in (0, 1, 2, 3, 4, 5, 6, LARGEST)]
        self.assertEqual(told, [[0, 0, 8, 8, 8, 0, 0], [-5], [0, 1, 8, 8, 8, 0, 0], [0, 1, 8, 8, 8, 0, 0], [-5], [-5],
                                [-5], [-5]])
        self.assertEqual(talk(rule(TWICE), fits(0, 0), at(0, 0)), [[0], [-5], [-5]])

    def test_no_such_rule(self):
        for call in (fits, at):
            self.assertEqual(last(call(0, 0)), [-3])
            self.assertEqual(talk(load(text("neg r0", "neg r0")), rule(TWICE), call(1, 0), call(LARGEST, 9), drop(0),
                                  call(0, 0))[2:], [[-3], [-3], [0], [-3]])

    def test_it_fits_just_where_it_is_told(self):
        throw = dice(3)
        count = 0
        for _ in range(400):
            given = throw.choice(RULES)
            there = code_near(throw, given)
            place = throw.randrange(len(there.splitlines()) + 1)
            found = all_fits(given, there, place)
            self.assertLessEqual(len(found), 1)
            wanted = [0] + found[0][0] if found else [-5]
            self.assertEqual(self.fit(given, there, place), wanted, (given, there, place))
            count += len(found)
        self.assertGreater(count, 40)


class At(unittest.TestCase):
    def test_the_right_side_stands_for_the_left(self):
        there = text("neg r7", "set r2 5", "add r4 r2", "neg r6")
        given = text("set a x", "add b a", "=>", "set a 0+x", "adc b 0+x")
        self.assertEqual(talk(rule(given), load(there), at(0, 1), code())[2:],
                         [[0, 4, 7], told_text(text("neg r7", "set r2 5", "adc r4 5", "neg r6"))])

    def test_first_and_last_place(self):
        there = text("neg r1", "neg r1", "set r0 3", "neg r2", "neg r2")
        self.assertEqual(talk(rule(TWICE), load(there), at(0, 3), code(), at(0, 0), code())[2:],
                         [[0, 3, 5], told_text(text("neg r1", "neg r1", "set r0 3")), [0, 1, 1],
                          told_text(text("set r0 3"))])

    def test_nothing_may_be_left(self):
        self.assertEqual(talk(rule(TWICE), load(text("neg r1", "neg r1")), at(0, 0), code(), at(0, 0))[2:],
                         [[0, 0, 0], [0], [-5]])

    def test_constants_are_reckoned_below_2_to_the_32(self):
        for right, x, y in (("0+x+y", LARGEST, 1), ("0+x+y", LARGEST, LARGEST), ("5-x+y", 7, 1), ("5-x+y", 1, 7),
                            ("5-x-y", LARGEST, 4), ("4294967295+x", 5, 9), ("4294967295-y", 5, 0), ("0-x", 0, 1),
                            ("0-x", 1, 0), ("9", 1, 2)):
            # Both are taken, as what is set first is lost.
            given = text("set a x", "set a y", "set a 9", "=>", f"set a {right}", "set a 9")
            worth = eval(right, {"x": x, "y": y}) % SIZE
            there = text(f"set r3 {x}", f"set r3 {y}", "set r3 9")
            self.assertEqual(talk(rule(given), load(there), at(0, 0), code())[2:],
                             [[0, 2, 2], told_text(text(f"set r3 {worth}", "set r3 9"))], right)

    def test_a_refusal_changes_nothing(self):
        there = text("neg r1", "neg r2", "neg r2")
        self.assertEqual(talk(rule(TWICE), load(there), at(0, 0), at(1, 1), at(0, 2), at(0, 3), at(0, LARGEST), code(),
                              fits(0, 1))[2:],
                         [[-5], [-3], [-5], [-5], [-5], told_text(there), [0, 2, 8, 8, 8, 0, 0]])

    def test_fits_changes_nothing(self):
        there = text("neg r1", "neg r1")
        self.assertEqual(talk(rule(TWICE), load(there), fits(0, 0), code())[2:],
                         [[0, 1, 8, 8, 8, 0, 0], told_text(there)])

    def test_put_and_at_go_on_with_one_another(self):
        self.assertEqual(talk(rule(TWICE), load(text("neg r1")), put(1, "neg r1"), at(0, 0), put(0, "neg r0"),
                              code())[2:], [[0, 2, 4], [0, 0, 0], [0, 1, 2], told_text(text("neg r0"))])

    def test_it_does_the_same_and_is_no_longer_and_no_dearer(self):
        throw = dice(5)
        for number in range(400):
            given = RULES[number % len(RULES)]
            there = code_near(throw, given)
            for place in range(len(there.splitlines())):
                told = talk(rule(given), load(there), at(0, place), code())
                self.assertEqual(told[0], [0], given)
                after = bytes(told[3][1:]).decode()
                found = all_fits(given, there, place)
                self.assertEqual(told[2][0], 0 if found else -5, (given, there, place))
                self.check_after(throw, there, after, told[2], found)

    def check_after(self, throw, there, after, told, found):
        if not found:
            self.assertEqual(after, there)
            return
        self.assertEqual(told, [0, len(after.splitlines()), cost(after.splitlines())])
        self.assertLessEqual(len(after.splitlines()), len(there.splitlines()))
        self.assertLess(cost(after.splitlines()), cost(there.splitlines()))
        for state in ([0] * 8, [LARGEST] * 8, [throw.randrange(SIZE) for _ in range(8)]):
            self.assertEqual(machine_outcome(after, state), machine_outcome(there, state), (there, after))


if __name__ == "__main__":
    unittest.main()
