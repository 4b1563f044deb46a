"""Promise 7 of code, and the calls load, code, put and cut."""

import unittest

from helper import COST, LARGEST, as_bytes, code, cost, cut, dice, last, load, put, random_line, talk, text, told_text

ALL = text("set r0 7", "mov r1 r2", "add r3 r4", "sub r5 r6", "adc r7 9", "neg r0", "swp r1 r1")
NEG = "neg r0\n"
FULL = NEG * 128
NAMES = [f"r{j}" for j in range(8)]


class Load(unittest.TestCase):
    def test_every_instruction_with_its_cost(self):
        self.assertEqual(talk(load(ALL), code()), [[0, 7, 16], told_text(ALL)])
        for line in ALL.splitlines():
            self.assertEqual(last(load(line + "\n")), [0, 1, COST[line[:3]]])

    def test_nothing_is_there_at_first(self):
        self.assertEqual(talk(code(), load(""), code()), [[0], [0, 0, 0], [0]])

    def test_a_later_load_takes_the_place_of_the_code(self):
        self.assertEqual(talk(load(ALL), load(NEG), code()), [[0, 7, 16], [0, 1, 2], told_text(NEG)])

    def test_every_register_in_both_places(self):
        for r in NAMES:
            for s in NAMES:
                line = text(f"swp {r} {s}")
                self.assertEqual(talk(load(line), code()), [[0, 1, 4], told_text(line)])

    def test_constants_at_their_edges(self):
        for word in ("set", "adc"):
            for k in ("0", "1", "10", "4294967295", "2147483648"):
                line = text(f"{word} r0 {k}")
                self.assertEqual(talk(load(line), code()), [[0, 1, COST[word]], told_text(line)])
            for k in ("4294967296", "4294967297", "9999999999", "10000000000", "9" * 4000, "00", "01", "04294967295",
                      "-1", "+1", "", "1.0", "1e3", "x", "y", "0+x", "r0", "1_0", "\xb2", "0x1"):
                self.assertEqual(last(load(text(f"{word} r0 {k}"))), [-6, 0], k)

    def test_lines_that_are_no_instruction(self):
        for line in ("", " ", "neg", "neg ", "neg  r0", " neg r0", "neg r0 ", "neg r8", "neg r", "neg r00", "neg R0",
                     "neg a", "neg 0", "NEG r0", "neg r0 r1", "neg r0 1", "negr0", "neg\tr0", "neg r0\r", "neg r0\0",
                     "mov r0", "mov r0 ", "mov r0 1", "mov r0 a", "mov r0 r8", "mov r0  r1", "mov r0 r1 r2",
                     "mov r0, r1", "add r0 1", "sub r0 1", "swp r0 1", "swp r0", "set r0", "set r0 1 ", "set r0 1 1",
                     "set 1 r0", "adc r0", "=>", "nop", "mul r0 r1", "n\xe9g r0", "?", "set r0 ?", "neg ?"):
            self.assertEqual(last(load(text(line))), [-6, 0], line)
            self.assertEqual(last(load(text(*ALL.splitlines(), line, "neg r1"))), [-6, 7], line)
            self.assertEqual(last(put(0, line)), [-6, 0], line)

    def test_the_first_fault_is_told(self):
        self.assertEqual(last(load(text("neg r0", "no", "neg r0", "nor"))), [-6, 1])
        self.assertEqual(last(load(text("neg r0", "no") + "neg r0")), [-6, 1])
        self.assertEqual(last(load("\n\n")), [-6, 0])
        self.assertEqual(last(load(ALL + "\n")), [-6, 7])

    def test_a_text_without_its_last_byte_10(self):
        self.assertEqual(last(load("neg r0")), [-6, 0])
        self.assertEqual(last(load(ALL[:-1])), [-6, 6])
        self.assertEqual(last(load(ALL + " ")), [-6, 7])
        self.assertEqual(last(load(ALL + "no")), [-6, 7])

    def test_128_instructions_and_one_more(self):
        self.assertEqual(talk(load(FULL), code()), [[0, 128, 256], told_text(FULL)])
        self.assertEqual(talk(load(ALL), load(FULL + NEG), code())[1:], [[-9], told_text(ALL)])

    def test_a_fault_goes_before_too_many(self):
        self.assertEqual(last(load(FULL + NEG + "no\n")), [-6, 129])
        self.assertEqual(last(load(FULL + "neg r0")), [-6, 128])

    def test_4096_bytes_and_one_more(self):
        long = "set r0 4294967295\n" * 227 + "neg r0\n" + "no\n"
        self.assertEqual(len(long), 4096)
        self.assertEqual(last(load(long)), [-6, 228])
        self.assertEqual(last(load(long + "\n")), [-1])
        self.assertEqual(last(load("set r0 4294967295\n" * 227 + "set r0 123\n" )), [-1])
        self.assertEqual(last(load("set r0 4294967295\n" * 227 + "set r0 12\n")), [-9])
        self.assertEqual(last(load([255] * 4096)), [-6, 0])
        self.assertEqual(last(load([255] * 4097)), [-1])
        self.assertEqual(last(load([0] * 4200)), [-1])

    def test_a_refusal_changes_nothing(self):
        for wrong in ("no\n", "neg r0", FULL + NEG, "x" * 4097):
            self.assertEqual(last(load(ALL), load(wrong), code()), told_text(ALL))

    def test_each_byte_that_does_not_belong(self):
        for byte in range(256):
            line = as_bytes("neg r") + [byte] + [10]
            fine = byte in as_bytes("01234567")
            self.assertEqual(last(load(line)), [0, 1, 2] if fine else [-6, 0], byte)

    def test_texts_are_told_as_they_were(self):
        throw = dice(7)
        for _ in range(100):
            lines = [random_line(throw, NAMES, ["0", "1", "12", str(LARGEST)]) for _ in range(throw.randrange(129))]
            given = text(*lines)
            if len(given) <= 4096:
                self.assertEqual(talk(load(given), code()), [[0, len(lines), cost(lines)], told_text(given)])


class Put(unittest.TestCase):
    def test_before_between_and_behind(self):
        self.assertEqual(talk(put(0, "neg r1"), code()), [[0, 1, 2], told_text("neg r1\n")])
        lines = ["neg r0", "set r1 5", "swp r2 r3"]
        for i in range(4):
            there = lines[:i] + ["adc r4 4294967295"] + lines[i:]
            self.assertEqual(talk(load(text(*lines)), put(i, "adc r4 4294967295"), code())[1:],
                             [[0, 4, 9], told_text(text(*there))])

    def test_a_place_behind_the_end(self):
        self.assertEqual(last(put(1, "neg r0")), [-1])
        for i in (8, 9, LARGEST):
            self.assertEqual(talk(load(ALL), put(i, "neg r0"), code())[1:], [[-1], told_text(ALL)])

    def test_a_byte_10_is_none_of_the_line(self):
        for line in ("neg r0\n", "\nneg r0", "neg r0\nneg r1", "\n", "set r0 1\n", "mov r0 r1\n"):
            self.assertEqual(talk(load(ALL), put(0, line), code())[1:], [[-6, 0], told_text(ALL)])

    def test_4096_bytes_and_one_more(self):
        self.assertEqual(last(put(0, "x" * 4096)), [-6, 0])
        self.assertEqual(last(put(0, "set r0 " + "1" * 4089)), [-6, 0])
        self.assertEqual(last(put(0, "x" * 4097)), [-1])
        self.assertEqual(last(put(0, "x" * 4200)), [-1])

    def test_128_are_there(self):
        self.assertEqual(talk(load(FULL[7:]), put(127, "set r0 1"), code())[1:],
                         [[0, 128, 255], told_text(FULL[7:] + "set r0 1\n")])
        for i in (0, 5, 128):
            self.assertEqual(talk(load(FULL), put(i, "neg r0"), code())[1:], [[-9], told_text(FULL)])

    def test_refusals_in_their_order(self):
        self.assertEqual(last(load(FULL), put(129, "no")), [-1])
        self.assertEqual(last(load(FULL), put(128, "no")), [-6, 0])
        self.assertEqual(last(load(FULL), put(128, "no" * 2049)), [-1])
        self.assertEqual(last(put(1, "no")), [-1])


class Cut(unittest.TestCase):
    def test_each_place(self):
        lines = ["neg r0", "set r1 5", "swp r2 r3"]
        for i in range(3):
            left = lines[:i] + lines[i + 1:]
            self.assertEqual(talk(load(text(*lines)), cut(i), code())[1:],
                             [[0, 2, cost(left)], told_text(text(*left))])

    def test_till_none_is_left(self):
        self.assertEqual(talk(load(NEG), cut(0), code(), cut(0)), [[0, 1, 2], [0, 0, 0], [0], [-3]])

    def test_none_is_there(self):
        self.assertEqual(last(cut(0)), [-3])
        for i in (7, 8, LARGEST):
            self.assertEqual(talk(load(ALL), cut(i), code())[1:], [[-3], told_text(ALL)])

    def test_room_is_made_for_another(self):
        self.assertEqual(talk(load(FULL), cut(127), put(127, "swp r0 r1"), put(0, "neg r0"))[1:],
                         [[0, 127, 254], [0, 128, 258], [-9]])


if __name__ == "__main__":
    unittest.main()
