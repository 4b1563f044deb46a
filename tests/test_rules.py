"""Promises 2 and 7 of rules, and the calls judge, rule, drop and say."""

import unittest

from helper import LARGEST, TWICE, dice, drop, judge, last, random_line, rule, say, talk, text, told_of_rule, told_text

SET_SET = text("set a x", "set a y", "=>", "set a 0+y")
WRONG = text("neg a", "=>", "set a 0")


def one_line_rule(left, right):
    return text(left, "neg d", "neg d", "neg d", "=>", right)


class Reading(unittest.TestCase):
    def fault(self, given, line):
        self.assertEqual(last(judge(given)), [-6, line], given)
        self.assertEqual(talk(rule(given), say(0)), [[-6, line], [-3]], given)

    def test_left_constants(self):
        for k in ("0", "1", "4294967295", "x", "y"):
            self.assertEqual(last(judge(text(f"set a {k}", "set a 1", "=>", "set a 1"))), [0, 2, 1], k)
        for k in ("4294967296", "00", "01", "0+x", "5-x", "x+y", "X", "z", "-1", "+x", "-x", "", "a", "xx", "x ", "1x",
                  "x+0", "9" * 4000):
            self.fault(text(f"set a {k}", "set a 1", "=>", "set a 1"), 0)
            self.fault(text("set a 1", f"adc a {k}", "=>", "set a 1"), 1)

    def test_right_constants_that_are_none(self):
        for k in ("x", "y", "+x", "-x", "+5", "-5", "x+5", "5+y+x", "5-y-x", "5+x+x", "5-y-y", "5+x+", "5+", "5x",
                  "5*x", "5++x", "5+-x", "5+x+y+0", "05+x", "00", "4294967296", "4294967296-x", "5 +x", "5+ x", "5+z",
                  "5+X", "", "a", "5-x+y ", "5+y-x", "5+x+y+y", "5+1"):
            self.fault(text("adc a x", "adc a y", "=>", f"adc a {k}"), 3)
            self.fault(text("set a x", "set a y", "=>", f"set a {k}"), 3)

    def test_right_constants_that_can_be_read(self):
        for number in ("0", "5", "4294967295"):
            for x in ("", "+x", "-x"):
                for y in ("", "+y", "-y"):
                    given = text("set a x", "set a y", "=>", f"set a {number}{x}{y}")
                    self.assertEqual(last(judge(given)), told_of_rule(given), given)
                    self.assertNotEqual(last(judge(given))[0], -6, given)

    def test_what_right_constants_come_to(self):
        for left, right in ((("adc a x", "adc a y"), "adc a 0+x+y"),
                            (("adc a x", "neg a", "adc a y", "neg a"), "adc a 0+x-y"),
                            (("neg a", "adc a x", "neg a", "adc a y"), "adc a 0-x+y"),
                            (("neg a", "adc a x", "adc a y", "neg a"), "adc a 0-x-y"),
                            (("set a x", "neg a"), "set a 0-x"),
                            (("set a x", "adc a 5"), "set a 5+x"),
                            (("set a y", "adc a 4294967295"), "set a 4294967295+y"),
                            (("set a x", "neg a", "adc a 5", "adc a y"), "set a 5-x+y"),
                            (("set a 4294967295", "adc a 1"), "set a 0")):
            self.assertEqual(last(judge(text(*left, "=>", right)))[0], 0, right)
            for other in ("adc", "set"):
                for k in ("0+x+y", "0+x-y", "0-x+y", "0-x-y", "0+x", "0-x", "0+y", "0-y", "5+x", "0"):
                    given = text(*left, "=>", f"{other} a {k}")
                    self.assertEqual(last(judge(given)), told_of_rule(given), given)

    def test_registers_of_the_machine_are_no_names(self):
        for name in ("r0", "e", "A", "ab", "", "8", "x"):
            self.fault(text(f"neg {name}", "neg a", "=>", "neg a"), 0)
            self.fault(text("neg a", "neg a", "=>", f"neg {name}"), 3)
            self.fault(text("neg a", f"swp a {name}", "=>", "neg a"), 1)

    def test_lines_that_are_none(self):
        for line in ("", " ", " =>", "=> ", "= >", "->", "neg  a", "neg a ", " neg a", "mov a", "mov a b c", "mov a 1",
                     "set a b", "neg a a", "nop", "neg a\r", "neg \xe9", "?"):
            self.fault(text(line, "neg a", "=>", "neg a"), 0)
            self.fault(text("neg a", line, "=>", "neg a"), 1)
            self.fault(text("neg a", "neg a", "=>", line), 3)

    def test_no_line_that_parts(self):
        self.fault("", 0)
        self.fault(text("neg a"), 1)
        self.fault(text("neg a", "neg a", "neg a"), 3)
        self.fault(text("neg a", "adc a 0+x"), 1)
        self.fault("neg a", 0)
        self.fault("=>", 0)
        self.fault("neg a\nneg a", 1)
        self.fault("neg a\n=>", 1)

    def test_two_lines_that_part(self):
        self.fault(text("neg a", "neg a", "=>", "=>"), 3)
        self.fault(text("neg a", "neg a", "=>", "neg a", "=>"), 4)
        self.fault(text("=>", "=>"), 1)
        self.fault(text("=>", "no", "=>"), 1)

    def test_no_last_byte_10(self):
        self.fault("neg a\nneg a\n=>", 2)
        self.fault("neg a\nneg a\n=>\nneg a", 3)
        self.fault("neg a\nneg a\n=>\nno", 3)
        self.fault("neg a\nneg a\n=>\n ", 3)
        self.fault("neg a\nneg a\n=>\n=>", 3)
        self.fault("no\nneg a\n=>\nneg a", 0)

    def test_the_first_fault_is_told(self):
        self.fault(text("no", "neg a", "=>", "no"), 0)
        self.fault(text("neg a", "adc a 0+x", "=>", "adc a x"), 1)
        self.fault(text("neg a", "adc a x", "=>", "adc a x", "no"), 3)
        self.fault(text(*["neg a"] * 200, "=>", "no"), 201)

    def test_4096_bytes_and_one_more(self):
        long = "neg a\n" * 682
        self.assertEqual(len(long), 4092)
        self.fault(long + "=>\nn", 683)
        self.assertEqual(last(judge(long + "=>\n")), [-2])
        self.fault(long + "no\n\n", 682)
        for call in (judge, rule):
            self.assertEqual(last(call(long + "=>\nno")), [-1])
            self.assertEqual(last(call("no\n" * 1400)), [-1])
            self.assertEqual(last(call([255] * 4097)), [-1])
            self.assertEqual(last(call([255] * 4096)), [-6, 0])


class Judging(unittest.TestCase):
    def told(self, given, answer):
        self.assertEqual(told_of_rule(given), answer, given)
        self.assertEqual(last(judge(given)), answer, given)
        taken = talk(rule(given), say(0))
        self.assertEqual(taken, [[0], told_text(given)] if answer[0] == 0 else [answer, [-3]], given)

    def test_ordinary_rules(self):
        self.told(TWICE, [0, 4, 0])
        self.told(SET_SET, [0, 2, 1])
        self.told(text("mov a a", "=>"), [0, 1, 0])
        self.told(text("swp a a", "=>"), [0, 4, 0])
        self.told(text("adc a 0", "=>"), [0, 2, 0])
        self.told(text("add a b", "sub a b", "=>"), [0, 6, 0])
        self.told(text("sub a a", "=>", "set a 0"), [0, 3, 1])
        self.told(text("set a x", "add b a", "=>", "set a 0+x", "adc b 0+x"), [0, 4, 3])
        self.told(text("neg b", "add a b", "neg b", "=>", "sub a b"), [0, 7, 3])
        self.told(text("swp a b", "swp b c", "swp c d", "swp d a", "=>", "swp b c", "swp c d"), [0, 16, 8])
        self.told(text("swp a b", "swp b c", "swp c d", "swp d a", "=>", "swp a b", "swp b c"), [-3, 1, 0, 0, 0, 0, 0])
        self.told(text("adc a 4294967295", "adc a 1", "=>"), [0, 4, 0])

    def test_not_formed(self):
        self.told(text("=>"), [-2])
        self.told(text("=>", "neg a"), [-2])
        self.told(text(*["neg a"] * 5, "=>"), [-2])
        self.told(text(*["neg a"] * 4, "=>"), [0, 8, 0])
        self.told(text("swp a a", "=>", "mov a a", "mov a a"), [-2])
        self.told(text("swp a a", "=>", "mov a a"), [0, 4, 1])
        self.told(text(*["neg a"] * 5, "=>", *["mov a a"] * 5), [-2])

    def test_what_the_left_has_not(self):
        self.told(text("neg a", "neg a", "=>", "mov b b"), [-2])
        self.told(text("neg a", "neg a", "=>", "mov a b"), [-2])
        self.told(text("swp a d", "=>", "mov c c"), [-2])
        self.told(text("swp a d", "=>", "mov a d"), [-3, 1, 0, 0, 0, 0, 0])
        self.told(text("neg a", "neg a", "=>", "set a 0+x"), [-2])
        self.told(text("adc a x", "=>", "set a 0+y"), [-2])
        self.told(text("adc a y", "=>", "set a 0-x"), [-2])
        self.told(text("adc a x", "adc a 1", "=>", "adc a 1+x-y"), [-2])
        self.told(text("adc a x", "adc a y", "=>", "adc a 0+x+y"), [0, 4, 2])
        self.told(text("adc a y", "adc a 1", "=>", "adc a 1+y"), [0, 4, 2])

    def test_not_cheaper(self):
        self.told(text("neg a", "=>", "neg a"), [-4])
        self.told(text("add a b", "=>", "sub a b"), [-4])
        self.told(text("set a x", "mov a b", "=>", "mov a b"), [0, 2, 1])
        self.told(text("set a x", "mov a b", "=>", "adc a 0+x"), [-4])
        self.told(text("set a x", "=>", "set a 0+x"), [-4])
        self.told(text("mov a b", "mov b a", "=>", "swp a b"), [-4])

    def test_formed_is_asked_before_cheaper_and_cheaper_before_right(self):
        self.told(text("set a 1", "=>", "swp b b"), [-2])
        self.told(text("neg a", "neg a", "=>", "set b 0"), [-2])
        self.told(text("set a 1", "=>", "set a 2"), [-4])

    def test_not_right_on_each_trial(self):
        self.told(text("adc a 1", "=>", "set a 0"), [-3, 0, 0, 0, 0, 0, 0])
        self.told(text("neg a", "=>"), [-3, 1, 0, 0, 0, 0, 0])
        self.told(text("neg a", "=>", "set a 0"), [-3, 1, 0, 0, 0, 0, 0])
        self.told(text("add a b", "=>"), [-3, 0, 1, 0, 0, 0, 0])
        self.told(text("add a c", "=>"), [-3, 0, 0, 1, 0, 0, 0])
        self.told(text("add a d", "=>"), [-3, 0, 0, 0, 1, 0, 0])
        self.told(text("adc a x", "=>"), [-3, 0, 0, 0, 0, 1, 0])
        self.told(text("adc a y", "=>"), [-3, 0, 0, 0, 0, 0, 1])
        self.told(text("adc a x", "adc a y", "=>", "adc a 0+x-y"), [-3, 0, 0, 0, 0, 0, 1])
        self.told(text("set a x", "set b y", "set a 5", "=>", "set a 5", "set b 0-y"), [-3, 0, 0, 0, 0, 0, 1])
        self.told(text("adc a 1", "adc a 1", "=>", "adc a 3"), [-3, 0, 0, 0, 0, 0, 0])

    def test_every_register_is_looked_at(self):
        for name in "abcd":
            given = text("neg a", "neg b", "neg c", "neg d", "=>", *(f"neg {n}" for n in "abcd" if n != name))
            self.told(given, [-3] + [int(n == name) for n in "abcd"] + [0, 0])

    def test_odd_and_even_numbers_are_told_apart(self):
        # What is so modulo 2, or of small numbers alone, isn't so of all numbers.
        self.told(text("add a a", "=>", "set a 0"), [-3, 1, 0, 0, 0, 0, 0])
        self.told(text("neg a", "=>", "mov a a"), [-3, 1, 0, 0, 0, 0, 0])
        self.told(text("adc a 2147483648", "adc a 2147483648", "=>"), [0, 4, 0])

    def test_many_rules_are_told_as_they_are_reckoned_here(self):
        throw = dice(11)
        seen = {}
        for _ in range(6000):
            names = "abcd"[:throw.randrange(1, 5)]
            left = [random_line(throw, names, "01xy") for _ in range(throw.randrange(1, 4))]
            rights = ["0", "1", "0+x", "0+y", "0+x+y", "1-x", "0-y", "0-x+y"]
            right = [random_line(throw, names, rights) for _ in range(throw.randrange(0, 3))]
            given = text(*left, "=>", *right)
            answer = last(judge(given))
            self.assertEqual(answer, told_of_rule(given), given)
            seen[tuple(answer[:1])] = seen.get(tuple(answer[:1]), 0) + 1
        self.assertEqual(sorted(seen), [(-4,), (-3,), (-2,), (0,)])

    def test_judge_holds_nothing(self):
        self.assertEqual(talk(judge(TWICE), say(0)), [[0, 4, 0], [-3]])


class Holding(unittest.TestCase):
    def test_the_lowest_number_that_no_rule_has(self):
        self.assertEqual(talk(rule(TWICE), rule(SET_SET), rule(TWICE)), [[0], [1], [2]])
        self.assertEqual(talk(*[rule(TWICE)] * 4, drop(2), drop(1), rule(SET_SET), say(1), say(2), rule(TWICE), say(2),
                              rule(TWICE))[4:],
                         [[0], [0], [1], told_text(SET_SET), [-3], [2], told_text(TWICE), [4]])

    def test_a_refused_rule_takes_no_number(self):
        self.assertEqual(talk(rule(WRONG), rule("no\n"), rule(text("=>")), rule(text("neg a", "=>", "neg a")),
                              rule("x" * 4097), rule(TWICE)),
                         [[-3, 1, 0, 0, 0, 0, 0], [-6, 0], [-2], [-4], [-1], [0]])

    def test_32_are_held(self):
        held = [rule(TWICE)] * 32
        self.assertEqual(talk(*held), [[k] for k in range(32)])
        self.assertEqual(talk(*held, rule(SET_SET), say(31), say(32))[32:], [[-9], told_text(TWICE), [-3]])
        self.assertEqual(talk(*held, judge(SET_SET))[32:], [[0, 2, 1]])
        self.assertEqual(talk(*held, drop(17), rule(SET_SET), say(17), rule(SET_SET))[32:],
                         [[0], [17], told_text(SET_SET), [-9]])

    def test_that_32_are_held_is_said_last(self):
        held = [rule(TWICE)] * 32
        self.assertEqual(talk(*held, rule(WRONG), rule("no\n"), rule(text("=>")), rule(text("neg a", "=>", "neg a")),
                              rule("x" * 4097))[32:],
                         [[-3, 1, 0, 0, 0, 0, 0], [-6, 0], [-2], [-4], [-1]])

    def test_drop(self):
        self.assertEqual(talk(rule(TWICE), rule(SET_SET), drop(0), say(0), say(1), drop(0), drop(1), drop(1)),
                         [[0], [1], [0], [-3], told_text(SET_SET), [-3], [0], [-3]])

    def test_drop_and_say_of_none(self):
        for k in (0, 1, 32, LARGEST):
            self.assertEqual(talk(drop(k), say(k)), [[-3], [-3]])
        self.assertEqual(talk(rule(TWICE), drop(1), say(1), say(LARGEST), say(0))[1:],
                         [[-3], [-3], [-3], told_text(TWICE)])

    def test_texts_are_told_as_they_were(self):
        for given in (TWICE, SET_SET, text("set a x", "neg a", "adc a 5", "adc a y", "=>", "set a 5-x+y"),
                      text("set d 4294967295", "set d x", "=>", "set d 0+x"), text("swp c c", "=>", "mov c c")):
            self.assertEqual(talk(rule(given), say(0)), [[0], told_text(given)])


if __name__ == "__main__":
    unittest.main()
