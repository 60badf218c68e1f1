"""Each instruction's result, the flags that it sets, and that it changes nothing else."""

import unittest

from asking import DONE, ONE_STEP, REGISTERS
from asking import ask, ask_groups, at_place, get, put, run
from expected import ALL_BITS, BITS, COMPARED, EDGES, MOVED, SET_OR_CLEARED, SHIFTS
from expected import after, five_of, state_of
from listing import first_byte

CODE = 0x4000
OPERAND_PLACE = 0x80
EVERY = range(256)
NO_FLAGS_AND_ALL = (0, ALL_BITS)


def with_operand(name, five, operand):
    """Puts the operand, runs the instruction upon it, tells the registers and the operand."""
    code = [first_byte(name, "Z"), OPERAND_PLACE]
    return [put(OPERAND_PLACE, [operand]), put(CODE, code), at_place(CODE, *five), run(1), REGISTERS,
            get(OPERAND_PLACE, 1)]


def without_operand(name, five, kind="none"):
    return [put(CODE, [first_byte(name, kind)]), at_place(CODE, *five), run(1), REGISTERS]


def fives_with(letter, held):
    """A, X, Y, S and flags: one register holds each of some bytes, with no flag set and with all."""
    fives = []
    for byte in held:
        for flags in NO_FLAGS_AND_ALL:
            five = [0x11, 0x22, 0x33, 0x44, flags]
            five["AXYS".index(letter)] = byte
            fives.append(five)
    return fives


class ResultTest(unittest.TestCase):
    def check_with_operand(self, name, cases):
        """Each case: A, X, Y, S and flags, then the operand."""
        groups = [with_operand(name, five, operand) for five, operand in cases]
        for (five, operand), told in zip(cases, ask_groups([], groups)):
            state, held = after(name, state_of(five), operand)
            seven = five_of(state) + [(CODE + 2) % 256, (CODE + 2) // 256]
            self.assertEqual(told[3:], [ONE_STEP, [0] + seven, [0, held]], (name, five, operand))

    def check_without_operand(self, name, cases):
        groups = [without_operand(name, five) for five in cases]
        for five, told in zip(cases, ask_groups([], groups)):
            state = after(name, state_of(five))[0]
            seven = five_of(state) + [(CODE + 1) % 256, (CODE + 1) // 256]
            self.assertEqual(told[2:], [ONE_STEP, [0] + seven], (name, five))

    def test_ora_and_eor(self):
        cases = [([a, 2, 3, 4, flags], m) for a in EDGES for m in EDGES for flags in NO_FLAGS_AND_ALL]
        for name in ("ORA", "AND", "EOR"):
            self.check_with_operand(name, cases)

    def test_loads(self):
        cases = [([a, a, a, 4, flags], m) for a in (0, 0x80) for m in EVERY for flags in NO_FLAGS_AND_ALL]
        for name in ("LDA", "LDX", "LDY"):
            self.check_with_operand(name, cases)

    def test_stores(self):
        for name in ("STA", "STX", "STY"):
            self.check_with_operand(name, [(five, 0x5A) for five in fives_with(name[2], EVERY)])

    def test_less_and_more_in_the_memory(self):
        cases = [([1, 2, 3, 4, flags], m) for m in EVERY for flags in NO_FLAGS_AND_ALL]
        for name in ("DEC", "INC"):
            self.check_with_operand(name, cases)

    def test_less_and_more_in_x_and_y(self):
        for name in ("DEX", "DEY", "INX", "INY"):
            self.check_without_operand(name, fives_with(name[2], EVERY))

    def test_moves(self):
        for name in MOVED:
            self.check_without_operand(name, fives_with(name[1], EVERY))

    def test_compares_of_all_pairs(self):
        groups = [[at_place(2 * m, a, flags=ALL_BITS * (m % 2)), run(1), REGISTERS] for a in EVERY for m in EVERY]
        code = [byte for m in EVERY for byte in (first_byte("CMP", "#"), m)]
        told = ask_groups([put(0, code)], groups)
        for k, answer in enumerate(told):
            a, m = divmod(k, 256)
            flags = (ALL_BITS * (m % 2) & ~0x83) | 0x20
            flags |= 1 if a >= m else 0
            flags |= 2 if a == m else 0
            flags |= (a - m) & 0x80
            self.assertEqual(answer[2][1:6], [a, 0, 0, 0, flags], (a, m))

    def test_compares_with_each_register(self):
        for name, letter in COMPARED.items():
            self.check_with_operand(name, [(five, m) for five in fives_with(letter, EDGES) for m in EDGES])

    def test_bit(self):
        cases = [([a, 2, 3, 4, flags], m) for a in EDGES for m in EVERY for flags in NO_FLAGS_AND_ALL]
        self.check_with_operand("BIT", cases)

    def test_shifts_in_the_memory(self):
        cases = [([0x5A, 2, 3, 4, flags], m) for m in EVERY for flags in (0, 1, ALL_BITS - 1, ALL_BITS)]
        for name in SHIFTS:
            self.check_with_operand(name, cases)

    def test_shifts_of_a(self):
        cases = [[a, 2, 3, 4, flags] for a in EVERY for flags in (0, 1, ALL_BITS - 1, ALL_BITS)]
        for name in SHIFTS:
            groups = [without_operand(name, five, "register") for five in cases]
            for five, told in zip(cases, ask_groups([], groups)):
                state, result = after(name, state_of(five), five[0])
                state["A"] = result
                self.assertEqual(told[2:], [ONE_STEP, [0] + five_of(state) + [1, CODE // 256]], (name, five))

    def test_a_shift_of_a_leaves_the_memory(self):
        told = ask(put(0, [0x81] * 256), put(CODE, [0x0A, 0x2A, 0x4A, 0x6A]), at_place(CODE), run(4), get(0, 256))
        self.assertEqual(told[-1], [0] + [0x81] * 256)

    def test_flags_set_and_cleared(self):
        for name in SET_OR_CLEARED + ("NOP",):
            self.check_without_operand(name, [[1, 2, 3, 4, flags] for flags in EVERY])


class PlainNumbersTest(unittest.TestCase):
    """The same by numbers that are written out, for a few: a program, and the registers behind it."""

    def check(self, code, steps, five, a=0, x=0, y=0, s=0, flags=0):
        told = ask(put(CODE, code), at_place(CODE, a, x, y, s, flags), run(steps), REGISTERS)
        self.assertEqual(told[1:3], [DONE, [0, steps]])
        self.assertEqual(told[3][1:6], five)

    def test_combined(self):
        self.check([0x09, 0x0F], 1, [0x3F, 0, 0, 0, 0x20], a=0x33)
        self.check([0x29, 0x0F], 1, [0x03, 0, 0, 0, 0x20], a=0x33)
        self.check([0x49, 0x0F], 1, [0x3C, 0, 0, 0, 0x20], a=0x33)
        self.check([0x49, 0x33], 1, [0, 0, 0, 0, 0x22], a=0x33)
        self.check([0x09, 0x80], 1, [0x80, 0, 0, 0, 0xA0])

    def test_compared_below_equal_above(self):
        for first, held in ((0xC9, "a"), (0xE0, "x"), (0xC0, "y")):
            for byte, flags in ((0x3F, 0xA0), (0x40, 0x23), (0x41, 0x21), (0xC0, 0xA1), (0xBF, 0x21), (0x00, 0xA0)):
                with self.subTest(first=hex(first), byte=hex(byte)):
                    five = [0, 0, 0, 0, flags]
                    five["axy".index(held)] = byte
                    self.check([first, 0x40], 1, five, **{held: byte})

    def test_bit(self):
        for m, flags in ((0x00, 0x22), (0x01, 0x20), (0x40, 0x62), (0x80, 0xA2), (0xC0, 0xE2), (0xC1, 0xE0)):
            with self.subTest(m=hex(m)):
                told = ask(put(0x10, [m]), put(CODE, [0x24, 0x10]), at_place(CODE, a=0x0F), run(1), REGISTERS)
                self.assertEqual(told[-1][1:6], [0x0F, 0, 0, 0, flags])

    def test_shifted(self):
        self.check([0x0A], 1, [0x02, 0, 0, 0, 0x21], a=0x81, flags=1)
        self.check([0x2A], 1, [0x03, 0, 0, 0, 0x21], a=0x81, flags=1)
        self.check([0x2A], 1, [0x02, 0, 0, 0, 0x21], a=0x81)
        self.check([0x4A], 1, [0x40, 0, 0, 0, 0x21], a=0x81, flags=1)
        self.check([0x6A], 1, [0xC0, 0, 0, 0, 0xA1], a=0x81, flags=1)
        self.check([0x6A], 1, [0x40, 0, 0, 0, 0x21], a=0x81)
        self.check([0x0A], 1, [0, 0, 0, 0, 0x23], a=0x80)
        self.check([0x4A], 1, [0, 0, 0, 0, 0x23], a=0x01)
        self.check([0x4A], 1, [0, 0, 0, 0, 0x22], a=0x00, flags=0x81)

    def test_less_and_more(self):
        self.check([0xE8], 1, [0, 0, 0, 0, 0x22], x=0xFF)
        self.check([0xCA], 1, [0, 0xFF, 0, 0, 0xA0])
        self.check([0xC8], 1, [0, 0, 0x80, 0, 0xA0], y=0x7F)
        self.check([0x88], 1, [0, 0, 0x00, 0, 0x22], y=0x01)

    def test_moved(self):
        self.check([0xAA], 1, [0x80, 0x80, 0, 0, 0xA0], a=0x80)
        self.check([0xBA], 1, [0, 0x80, 0, 0x80, 0xA0], s=0x80)
        self.check([0x9A], 1, [0, 0, 0, 0, 0xA0], s=0x55, flags=0x80)
        self.check([0x9A], 1, [0, 0x80, 0, 0x80, 0x22], x=0x80, flags=0x02)

    def test_each_flag(self):
        for first, bit, value in (
            (0x18, "C", 0), (0x38, "C", 1), (0x58, "I", 0), (0x78, "I", 1), (0xB8, "V", 0), (0xD8, "D", 0),
            (0xF8, "D", 1),
        ):
            for before in NO_FLAGS_AND_ALL:
                with self.subTest(first=hex(first), before=before):
                    flags = before | BITS[bit] if value else before & ~BITS[bit]
                    self.check([first], 1, [0, 0, 0, 0, flags | 0x20], flags=before)


if __name__ == "__main__":
    unittest.main()
