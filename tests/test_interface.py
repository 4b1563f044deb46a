"""The interface: calls in one list, answers in one list, nothing changed and nothing kept."""

import unittest

from helper import TWICE, at, code, cut, drop, evaluated, fits, form, judge, load, put, redo, rule, run, same, say
from helper import state, step, text, trail, undo
from peepbook.rewriting import answers


class Interface(unittest.TestCase):
    def test_how_answers_are_given_back(self):
        neg = list(b"neg r3\n")
        self.assertEqual(answers([0, 7, *neg]), [3, 0, 1, 2])
        self.assertEqual(answers([1]), [1, 0])
        self.assertEqual(answers([0, 0, 1]), [3, 0, 0, 0, 1, 0])
        self.assertEqual(answers([2, 0, 6, *neg[:-1], 1]), [3, 0, 1, 2, 8, 0, *neg])
        self.assertEqual(answers([3, 0]), [1, -3])
        self.assertEqual(answers([4, 0]), [2, -6, 0])
        self.assertEqual(answers([5, 0]), [2, -6, 0])
        self.assertEqual(answers([6, 4294967295, 7, 0]), [1, -3, 1, -3])
        self.assertEqual(answers([8, 0, 0, 9, 0, 0]), [1, -3, 1, -3])
        self.assertEqual(answers([10, 11, 12]), [1, -5, 1, 0, 1, 0])
        self.assertEqual(answers([13, 8, 1, 2, 3, 4, 5, 6, 7, 4294967295]), [9, 0, 1, 2, 3, 4, 5, 6, 7, 4294967295])
        self.assertEqual(answers([13, 0, 13, 9, 1, 2, 3, 4, 5, 6, 7, 8, 9]), [1, -1, 1, -1])
        self.assertEqual(answers([14, 1, 14, 8]), [10, 0, 0, 1, 0, 0, 0, 0, 0, 0, 0, 1, -1])
        self.assertEqual(answers([15, 0, 15, 7, *neg, 15, 1, 10]), [1, 1, 9, 0, 0, 0, 0, 1, 0, 0, 0, 0, 2, -6, 0])
        self.assertEqual(answers([16, 17, 18]), [5, 0, 0, 0, 0, 0, 1, -3, 1, -3])

    def test_a_rule_through_all_its_calls(self):
        twice = list(TWICE.encode())
        neg = list(b"neg r3\nneg r3\n")
        self.assertEqual(answers([4, 15, *twice, 5, 15, *twice, 7, 0, 0, 14, *neg, 8, 0, 0, 9, 0, 0, 1, 6, 0]),
                         [3, 0, 4, 0, 1, 0, 16, 0, *twice, 3, 0, 2, 4, 7, 0, 3, 8, 8, 8, 0, 0, 3, 0, 0, 0, 1, 0, 1, 0])

    def test_steps_and_undo_through_all_their_calls(self):
        twice = list(TWICE.encode())
        neg = list(b"neg r3\n")
        self.assertEqual(answers([5, 15, *twice, 5, 15, *twice, 6, 0, 0, 21, *neg * 3, 10, 12, 17, 11, 12, 16, 18]),
                         [1, 0, 1, 1, 1, 0, 3, 0, 3, 6, 3, 0, 1, 0, 3, 1, 1, 0, 1, 0, 1, 1, 3, 1, 1, 0,
                          6, 0, 1, 2, 2, 0, 1, 1, -3])

    def test_what_is_told_behind_a_refusal(self):
        wrong = list(text("neg a", "=>").encode())
        self.assertEqual(answers([4, len(wrong), *wrong, 5, len(wrong), *wrong]),
                         [7, -3, 1, 0, 0, 0, 0, 0, 7, -3, 1, 0, 0, 0, 0, 0])
        self.assertEqual(answers([2, 0, 1, 10]), [2, -6, 0])
        self.assertEqual(answers([2, 1, 1, 10]), [1, -1])

    def test_a_refused_call_is_read_to_its_end(self):
        long = [1] * 4200
        row = [4200, *long]
        self.assertEqual(answers([0, *row, 2, 9, *row, 4, *row, 5, *row, 9, 1, 1, 8, 1, 1, 15, *row, 13, 12, *long[:12],
                                  13, 0, 14, 16, 1]),
                         [1, -1, 1, -1, 1, -1, 1, -1, 1, -3, 1, -3, 1, -1, 1, -1, 1, -1, 1, -1, 1, 0])

    def test_what_is_handed_in_stays_and_nothing_is_kept(self):
        calls = [number for call in (load(text("neg r0", "neg r0")), put(2, "set r1 4"), rule(TWICE), judge(TWICE),
                                     say(0), fits(0, 0), at(0, 0), code(), cut(0), load(text("neg r0", "neg r0")), step(), undo(),
                                     run(), trail(), evaluated([1, 2, 3, 4, 5, 6, 7, 8]), form(0), same(""),
                                     state(), undo(), redo(), drop(0), rule("no"), code())
                 for number in call]
        before = list(calls)
        first = answers(calls)
        self.assertEqual(calls, before)
        first_copy = list(first)
        first.clear()
        self.assertEqual(answers(calls), first_copy)
        self.assertEqual(answers(code() + say(0) + trail() + undo() + redo() + state()),
                         [1, 0, 1, -3, 1, 0, 1, -3, 1, -3, 5, 0, 0, 0, 0, 0])

    def test_64_calls(self):
        self.assertEqual(answers(code() * 64), [1, 0] * 64)

    def test_answers_are_whole_numbers(self):
        given = load("neg r0\n" * 4) + rule(TWICE) + fits(0, 0) + code() + say(0) + rule("no") + step() + run() + trail()
        given += evaluated([1] * 8) + form(0) + same("") + same("neg r1\n") + state() + undo() + redo() + state()
        for number in answers(given):
            self.assertIs(type(number), int)


if __name__ == "__main__":
    unittest.main()
