"""Each kind of operand, and where it goes round."""

import unittest

from asking import DONE, ONE_STEP, REGISTERS
from asking import ask, at_place, get, memory_after, put, put_round, run
from expected import after, five_of, state_of
from listing import LEADING, LISTING, kind_of, name_of, size_of

OPERAND = 0x9C
A, S = 0x35, 0x77

# For each kind: the bytes behind the first, X, Y, what else is put where, and the operand's place.
WAYS = {
    "Z": [
        ([0x80], 5, 6, {}, 0x80),
        ([0x00], 5, 6, {}, 0x00),
        ([0xFF], 5, 6, {}, 0xFF),
    ],
    "ZX": [
        ([0x80], 0x05, 0x33, {}, 0x85),
        ([0x80], 0x00, 0x33, {}, 0x80),
        ([0x80], 0x7F, 0x33, {}, 0xFF),
        ([0x80], 0x80, 0x33, {}, 0x00),
        ([0xFF], 0xFF, 0x33, {}, 0xFE),
        ([0xFF], 0x01, 0x33, {}, 0x00),
    ],
    "ZY": [
        ([0x80], 0x33, 0x05, {}, 0x85),
        ([0x80], 0x33, 0x00, {}, 0x80),
        ([0x80], 0x33, 0x7F, {}, 0xFF),
        ([0x80], 0x33, 0x80, {}, 0x00),
        ([0xFF], 0x33, 0xFF, {}, 0xFE),
    ],
    "A": [
        ([0x34, 0x12], 5, 6, {}, 0x1234),
        ([0x00, 0x00], 5, 6, {}, 0x0000),
        ([0xFF, 0x00], 5, 6, {}, 0x00FF),
        ([0xFF, 0xFF], 5, 6, {}, 0xFFFF),
    ],
    "AX": [
        ([0x34, 0x12], 0x05, 0x33, {}, 0x1239),
        ([0x34, 0x12], 0x00, 0x33, {}, 0x1234),
        ([0x34, 0x12], 0xFF, 0x33, {}, 0x1333),
        ([0xFF, 0x00], 0x01, 0x33, {}, 0x0100),
        ([0xFF, 0xFF], 0x01, 0x33, {}, 0x0000),
        ([0x80, 0xFF], 0xFF, 0x33, {}, 0x007F),
    ],
    "AY": [
        ([0x34, 0x12], 0x33, 0x05, {}, 0x1239),
        ([0x34, 0x12], 0x33, 0x00, {}, 0x1234),
        ([0x34, 0x12], 0x33, 0xFF, {}, 0x1333),
        ([0xFF, 0xFF], 0x33, 0x01, {}, 0x0000),
        ([0x80, 0xFF], 0x33, 0xFF, {}, 0x007F),
    ],
    "IX": [
        ([0x80], 0x05, 0x33, {0x85: 0x34, 0x86: 0x12}, 0x1234),
        ([0x80], 0x00, 0x33, {0x80: 0x34, 0x81: 0x12}, 0x1234),
        ([0xFF], 0x00, 0x33, {0xFF: 0x34, 0x00: 0x12, 0x100: 0x55}, 0x1234),
        ([0x80], 0x7F, 0x33, {0xFF: 0x34, 0x00: 0x12, 0x100: 0x55}, 0x1234),
        ([0xF0], 0x20, 0x33, {0x10: 0x34, 0x11: 0x12, 0x110: 0x55, 0x111: 0x55}, 0x1234),
        ([0xFF], 0x01, 0x33, {0x00: 0xFF, 0x01: 0xFF, 0x100: 0x55, 0x101: 0x55}, 0xFFFF),
    ],
    "IY": [
        ([0x80], 0x33, 0x05, {0x80: 0x34, 0x81: 0x12}, 0x1239),
        ([0x80], 0x33, 0x00, {0x80: 0x34, 0x81: 0x12}, 0x1234),
        ([0x80], 0x33, 0xFF, {0x80: 0x34, 0x81: 0x12}, 0x1333),
        ([0xFF], 0x33, 0x05, {0xFF: 0x34, 0x00: 0x12, 0x100: 0x55}, 0x1239),
        ([0x80], 0x33, 0x20, {0x80: 0xF0, 0x81: 0xFF}, 0x0010),
        ([0x80], 0x33, 0x01, {0x80: 0xFF, 0x81: 0xFF}, 0x0000),
    ],
}


def firsts_of(kind):
    return [first for first in LISTING if kind_of(first) == kind and name_of(first) not in LEADING]


class KindTest(unittest.TestCase):
    def check(self, first, at, way, flags):
        behind, x, y, others, place = way
        code = put_round(at, [first] + behind)
        calls = [put(other, [byte]) for other, byte in others.items()]
        calls += [put(place, [OPERAND])] + code + [at_place(at, A, x, y, S, flags)]
        before = memory_after(*calls)
        told = ask(*calls, run(1), REGISTERS)
        state, operand = after(name_of(first), state_of([A, x, y, S, flags]), OPERAND)
        pc = (at + size_of(first)) % 65536
        self.assertEqual(told[-2], ONE_STEP)
        self.assertEqual(told[-1], [0] + five_of(state) + [pc % 256, pc // 256])
        before[place] = operand
        self.assertEqual(memory_after(*calls, run(1)), before)

    def test_every_instruction_that_has_an_operand_in_the_memory(self):
        for kind, ways in WAYS.items():
            self.assertTrue(firsts_of(kind))
            for first in firsts_of(kind):
                for k, way in enumerate(ways):
                    with self.subTest(first=hex(first), kind=kind, way=way):
                        self.check(first, 0x4000, way, 0xC5 if k % 2 else 0x02)

    def test_the_instructions_own_bytes_go_round(self):
        for kind, ways in WAYS.items():
            for at in (0xFFFC, 0xFFFD, 0xFFFE, 0xFFFF):
                with self.subTest(kind=kind, at=hex(at)):
                    self.check(firsts_of(kind)[0], at, ways[0], 0)

    def test_the_byte_itself(self):
        for first in firsts_of("#"):
            for at in (0x4000, 0xFFFE, 0xFFFF):
                with self.subTest(first=hex(first), at=hex(at)):
                    calls = put_round(at, [first, OPERAND]) + [at_place(at, A, 5, 6, S, 1)]
                    state = after(name_of(first), state_of([A, 5, 6, S, 1]), OPERAND)[0]
                    pc = (at + 2) % 65536
                    told = ask(*calls, run(1), REGISTERS)[-2:]
                    self.assertEqual(told, [ONE_STEP, [0] + five_of(state) + [pc % 256, pc // 256]])
                    self.assertEqual(memory_after(*calls, run(1)), memory_after(*calls))

    def test_without_operand_at_the_memorys_end(self):
        told = ask(put(0xFFFF, [0xE8]), put(0, [0xC8]), at_place(0xFFFF), run(2), REGISTERS)
        self.assertEqual(told[3:], [[0, 2], [0, 0, 1, 1, 0, 0x20, 1, 0]])


class PlainNumbersTest(unittest.TestCase):
    """The same by numbers that are written out, for a few."""

    def loaded(self, code, *calls, x=0, y=0):
        told = ask(*calls, put(0x200, code), at_place(0x200, x=x, y=y), run(1), REGISTERS)
        self.assertEqual(told[-2], ONE_STEP)
        return told[-1][1]

    def test_zx_stays_in_the_first_256(self):
        here, beyond = put(0x10, [0x11]), put(0x110, [0x22])
        self.assertEqual(self.loaded([0xB5, 0xF0], here, beyond, x=0x20), 0x11)

    def test_ax_does_not(self):
        here, beyond = put(0x10, [0x11]), put(0x110, [0x22])
        self.assertEqual(self.loaded([0xBD, 0xF0, 0x00], here, beyond, x=0x20), 0x22)

    def test_ix_word_at_the_end_of_the_first_256(self):
        calls = put(0xFF, [0x00]), put(0x00, [0x30]), put(0x100, [0x40]), put(0x3000, [0x33]), put(0x4000, [0x44])
        self.assertEqual(self.loaded([0xA1, 0xFE], *calls, x=1), 0x33)

    def test_iy_word_at_the_end_of_the_first_256(self):
        calls = put(0xFF, [0x00]), put(0x00, [0x30]), put(0x100, [0x40]), put(0x3001, [0x33]), put(0x4001, [0x44])
        self.assertEqual(self.loaded([0xB1, 0xFF], *calls, y=1), 0x33)

    def test_x_and_y_of_ix_and_iy_count_at_their_own_time(self):
        calls = put(0x20, [0x00, 0x30, 0x00, 0x40]), put(0x3000, [1, 2, 3]), put(0x4000, [4, 5, 6])
        self.assertEqual(self.loaded([0xA1, 0x20], *calls, x=2, y=1), 4)
        self.assertEqual(self.loaded([0xB1, 0x20], *calls, x=1, y=2), 3)

    def test_a_store_beyond_the_end_goes_round(self):
        calls = put(0x200, [0x9D, 0xFF, 0xFF]), at_place(0x200, a=0x66, x=3)
        self.assertEqual(ask(*calls, run(1), get(0, 4))[-2:], [ONE_STEP, DONE + [0, 0, 0x66, 0]])


if __name__ == "__main__":
    unittest.main()
