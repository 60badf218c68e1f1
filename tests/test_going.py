"""Branches, JMP, JSR, RTS, BRK, RTI, and what goes by the stack: where PC goes, what is pushed and pulled."""

import unittest

from asking import DONE, ONE_STEP, REGISTERS
from asking import ask, ask_groups, at_place, get, memory_after, pc_after, put, put_round, run, seven_after
from expected import ALL_BITS, BITS, TOLD

CODE = 0x4000

# First byte, the flag, and the value on which the branch is taken.
BRANCHES = (
    (0x10, "N", 0), (0x30, "N", 1), (0x50, "V", 0), (0x70, "V", 1),
    (0x90, "C", 0), (0xB0, "C", 1), (0xD0, "Z", 0), (0xF0, "Z", 1),
)


def stepped(code, a=0, x=0, y=0, s=0, flags=0, at=CODE, before=()):
    """The calls that put code and make one step of it."""
    return [*before, *put_round(at, code), at_place(at, a, x, y, s, flags), run(1)]


class BranchTest(unittest.TestCase):
    def test_taken_by_its_own_flag_alone(self):
        for first, letter, value in BRANCHES:
            groups = [[put(CODE, [first, 0x10]), at_place(CODE, 1, 2, 3, 4, flags), run(1), REGISTERS]
                      for flags in range(256)]
            for flags, told in enumerate(ask_groups([], groups)):
                taken = int(flags & BITS[letter] > 0) == value
                seven = [1, 2, 3, 4, flags & ALL_BITS | TOLD, 0x12 if taken else 0x02, 0x40]
                self.assertEqual(told[2:], [ONE_STEP, [0] + seven], (hex(first), flags))

    def test_every_distance(self):
        for b in range(256):
            distance = b if b < 128 else b - 256
            self.assertEqual(pc_after(*stepped([0x90, b])), 0x4002 + distance)
            self.assertEqual(pc_after(*stepped([0x90, b], flags=1)), 0x4002)

    def test_the_distances_ends(self):
        for b, pc in ((0x00, 0x4002), (0x7F, 0x4081), (0x80, 0x3F82), (0xFE, 0x4000), (0xFF, 0x4001)):
            self.assertEqual(pc_after(*stepped([0xD0, b])), pc)

    def test_round_the_memorys_ends(self):
        for at, b, taken, behind in (
            (0xFFFD, 0x00, 0xFFFF, 0xFFFF),
            (0xFFFD, 0x01, 0x0000, 0xFFFF),
            (0xFFFE, 0x00, 0x0000, 0x0000),
            (0xFFFE, 0x10, 0x0010, 0x0000),
            (0xFFFF, 0x10, 0x0011, 0x0001),
            (0xFFFF, 0xFE, 0xFFFF, 0x0001),
            (0xFFFF, 0x80, 0xFF81, 0x0001),
            (0x0000, 0xFD, 0xFFFF, 0x0002),
            (0x0000, 0x80, 0xFF82, 0x0002),
            (0x0010, 0x80, 0xFF92, 0x0012),
        ):
            with self.subTest(at=hex(at), b=hex(b)):
                self.assertEqual(pc_after(*stepped([0x50, b], at=at)), taken)
                self.assertEqual(pc_after(*stepped([0x70, b], at=at)), behind)

    def test_a_loop(self):
        told = ask(put(CODE, [0xCA, 0xD0, 0xFD]), at_place(CODE, x=5), run(9), REGISTERS, run(1), REGISTERS)
        self.assertEqual(told[2:4], [[0, 9], [0, 0, 0, 0, 0, 0x22, 0x01, 0x40]])
        self.assertEqual(told[4:], [ONE_STEP, [0, 0, 0, 0, 0, 0x22, 0x03, 0x40]])


class JumpTest(unittest.TestCase):
    def test_to_a_word(self):
        for place in (0, 0x00FF, 0x1234, 0xFFFF):
            calls = stepped([0x4C, place % 256, place // 256], 1, 2, 3, 4, ALL_BITS)
            self.assertEqual(seven_after(*calls), [1, 2, 3, 4, 0xEF, place % 256, place // 256])

    def test_its_own_bytes_go_round(self):
        for at in (0xFFFE, 0xFFFF):
            self.assertEqual(pc_after(*stepped([0x4C, 0x34, 0x12], at=at)), 0x1234)

    def test_by_a_pointer(self):
        calls = stepped([0x6C, 0x34, 0x12], 1, 2, 3, 4, ALL_BITS, before=[put(0x1234, [0x78, 0x56])])
        self.assertEqual(seven_after(*calls), [1, 2, 3, 4, 0xEF, 0x78, 0x56])

    def test_by_a_pointer_at_the_end_of_256(self):
        for pointer, upper_place, beyond in ((0x00FF, 0x0000, 0x0100), (0x12FF, 0x1200, 0x1300), (0xFFFF, 0xFF00, 0)):
            with self.subTest(pointer=hex(pointer)):
                before = [put(pointer, [0x78]), put(upper_place, [0x56]), put(beyond, [0x9A])]
                calls = stepped([0x6C, pointer % 256, pointer // 256], before=before)
                self.assertEqual(pc_after(*calls), 0x5678)

    def test_a_jump_leaves_the_memory(self):
        for code in ([0x4C, 0x34, 0x12], [0x6C, 0x34, 0x12]):
            calls = stepped(code)
            self.assertEqual(memory_after(*calls), memory_after(*calls[:-1]))


class CallAndReturnTest(unittest.TestCase):
    def test_jsr(self):
        calls = stepped([0x20, 0x34, 0x12], 1, 2, 3, 0xFF, ALL_BITS)
        self.assertEqual(seven_after(*calls), [1, 2, 3, 0xFD, 0xEF, 0x34, 0x12])
        self.assertEqual(ask(*calls, get(0x1FD, 3))[-1], [0, 0, 0x02, 0x40])

    def test_jsr_pushes_the_place_of_its_last_byte_round_the_end(self):
        for at, pushed in ((0xFFFC, [0xFE, 0xFF]), (0xFFFD, [0xFF, 0xFF]), (0xFFFE, [0, 0]), (0xFFFF, [1, 0])):
            with self.subTest(at=hex(at)):
                calls = stepped([0x20, 0x34, 0x12], s=0x80, at=at)
                self.assertEqual(pc_after(*calls), 0x1234)
                self.assertEqual(ask(*calls, get(0x17F, 2))[-1], [0] + pushed)

    def test_jsr_reads_its_word_before_it_pushes(self):
        # Its own bytes are on the stack: the upper byte is pushed onto the word's upper byte.
        calls = stepped([0x20, 0x34, 0x12], s=0x82, at=0x180)
        self.assertEqual(pc_after(*calls), 0x1234)
        self.assertEqual(ask(*calls, get(0x180, 3))[-1], [0, 0x20, 0x82, 0x01])

    def test_jsr_with_s_going_round(self):
        calls = stepped([0x20, 0x34, 0x12], s=0x00)
        self.assertEqual(seven_after(*calls)[3], 0xFE)
        self.assertEqual(ask(*calls, get(0x100, 1), get(0x1FF, 1), get(0xFF, 1))[-3:], [[0, 0x40], [0, 0x02], [0, 0]])

    def test_rts(self):
        calls = stepped([0x60], 1, 2, 3, 0x80, ALL_BITS, before=[put(0x181, [0x34, 0x12])])
        self.assertEqual(seven_after(*calls), [1, 2, 3, 0x82, 0xEF, 0x35, 0x12])

    def test_rts_goes_one_further_round_256_and_the_end(self):
        for pulled, pc in (([0xFF, 0x12], 0x1300), ([0xFF, 0xFF], 0x0000), ([0xFE, 0xFF], 0xFFFF)):
            self.assertEqual(pc_after(*stepped([0x60], s=0x80, before=[put(0x181, pulled)])), pc)

    def test_rts_with_s_going_round(self):
        for s, lower, upper, after in ((0xFF, 0x100, 0x101, 0x01), (0xFE, 0x1FF, 0x100, 0x00)):
            with self.subTest(s=s):
                calls = stepped([0x60], s=s, before=[put(lower, [0x34]), put(upper, [0x12])])
                self.assertEqual(seven_after(*calls)[3:], [after, 0x20, 0x35, 0x12])

    def test_there_and_back(self):
        calls = [put(CODE, [0x20, 0x00, 0x50, 0xE8]), put(0x5000, [0xC8, 0x60]), at_place(CODE, s=0x01)]
        self.assertEqual(seven_after(*calls, run(4)), [0, 1, 1, 0x01, 0x20, 0x04, 0x40])


class BreakTest(unittest.TestCase):
    VECTORS = put(0xFFFA, [0x11, 0x11, 0x22, 0x22, 0x78, 0x56])

    def test_brk(self):
        for flags in range(256):
            calls = stepped([0x00], 1, 2, 3, 0xFF, flags, before=[self.VECTORS])
            kept = flags & ALL_BITS | TOLD
            told = ask(*calls, REGISTERS, get(0x1FC, 4))
            self.assertEqual(told[-3:], [ONE_STEP, [0, 1, 2, 3, 0xFC, kept | 4, 0x78, 0x56],
                                         [0, 0, kept | 16, 0x02, 0x40]])

    def test_brk_at_the_memorys_end(self):
        for at, pushed in ((0xFFF0, [0xF2, 0xFF]), (0x00FE, [0x00, 0x01]), (0xFFFD, [0xFF, 0xFF])):
            with self.subTest(at=hex(at)):
                calls = stepped([0x00], s=0x80, at=at, before=[put(0xFFFE, [0x78, 0x56])])
                self.assertEqual(ask(*calls, get(0x17F, 2))[-1], [0] + pushed)
        # At the last two places BRK's own byte is in the word that it goes by.
        for at, pushed, pc in ((0xFFFE, [0, 0], 0x5600), (0xFFFF, [1, 0], 0x0078)):
            with self.subTest(at=hex(at)):
                calls = stepped([0x00], s=0x80, at=at, before=[put(0xFFFE, [0x78, 0x56])])
                self.assertEqual(ask(*calls, get(0x17F, 2))[-1], [0] + pushed)
                self.assertEqual(pc_after(*calls), pc)

    def test_brk_with_s_going_round(self):
        calls = stepped([0x00], s=0x01, before=[self.VECTORS])
        self.assertEqual(seven_after(*calls)[3], 0xFE)
        told = ask(*calls, get(0x100, 2), get(0x1FF, 1))
        self.assertEqual(told[-2:], [[0, 0x02, 0x40], [0, 0x30]])

    def test_rti(self):
        for flags in range(256):
            before = [put(0x181, [flags, 0x34, 0x12])]
            calls = stepped([0x40], 1, 2, 3, 0x80, 255 - flags, before=before)
            self.assertEqual(seven_after(*calls), [1, 2, 3, 0x83, flags & ALL_BITS | TOLD, 0x34, 0x12])

    def test_rti_with_s_going_round(self):
        before = [put(0x1FF, [0xC1]), put(0x100, [0xFF, 0xFF])]
        self.assertEqual(seven_after(*stepped([0x40], s=0xFE, before=before)), [0, 0, 0, 0x01, 0xE1, 0xFF, 0xFF])

    def test_there_and_back(self):
        calls = [self.VECTORS, put(CODE, [0x00, 0xFF, 0xE8]), put(0x5678, [0xC8, 0x40])]
        told = ask(*calls, at_place(CODE, s=0x50, flags=0xC1), run(4), REGISTERS)
        self.assertEqual(told[-2:], [[0, 4], [0, 0, 1, 1, 0x50, 0x61, 0x03, 0x40]])


class StackTest(unittest.TestCase):
    def test_php(self):
        for flags in range(256):
            calls = stepped([0x08], 1, 2, 3, 0x80, flags)
            kept = flags & ALL_BITS | TOLD
            told = ask(*calls, REGISTERS, get(0x17F, 3))
            self.assertEqual(told[-2:], [[0, 1, 2, 3, 0x7F, kept, 0x01, 0x40], [0, 0, kept | 16, 0]])

    def test_plp(self):
        for flags in range(256):
            calls = stepped([0x28], 1, 2, 3, 0x80, 255 - flags, before=[put(0x181, [flags])])
            self.assertEqual(seven_after(*calls), [1, 2, 3, 0x81, flags & ALL_BITS | TOLD, 0x01, 0x40])

    def test_pha(self):
        for a in range(256):
            flags = ALL_BITS if a % 2 else 0
            calls = stepped([0x48], a, 2, 3, 0x80, flags)
            told = ask(*calls, REGISTERS, get(0x17F, 3))
            self.assertEqual(told[-2:], [[0, a, 2, 3, 0x7F, flags | TOLD, 0x01, 0x40], [0, 0, a, 0]])

    def test_pla(self):
        for byte in range(256):
            for flags in (0, ALL_BITS):
                calls = stepped([0x68], 1, 2, 3, 0x80, flags, before=[put(0x181, [byte])])
                told = flags & 0x4D | TOLD | byte & 0x80 | (2 if byte == 0 else 0)
                self.assertEqual(seven_after(*calls), [byte, 2, 3, 0x81, told, 0x01, 0x40])

    def test_s_goes_round(self):
        for first in (0x48, 0x08):
            calls = stepped([first], a=0x30, s=0x00)
            self.assertEqual(seven_after(*calls)[3], 0xFF)
            self.assertEqual(ask(*calls, get(0x100, 1), get(0xFF, 1), get(0x1FF, 1))[-3:], [[0, 0x30], [0, 0], [0, 0]])
        for first in (0x68, 0x28):
            calls = stepped([first], s=0xFF, before=[put(0x100, [0xC1]), put(0x200, [0x02])])
            seven = seven_after(*calls)
            self.assertEqual((seven[3], seven[4] & 0xC0), (0x00, 0x80 if first == 0x68 else 0xC0))

    def test_pulling_leaves_the_byte(self):
        for first in (0x68, 0x28):
            told = ask(*stepped([first], s=0x80, before=[put(0x180, [1, 2, 3])]), get(0x180, 3))
            self.assertEqual(told[-1], [0, 1, 2, 3])

    def test_pushed_and_pulled_again(self):
        code = [0x48, 0x08, 0xA9, 0x00, 0x18, 0x28, 0x68]
        told = ask(put(CODE, code), at_place(CODE, a=0x91, s=0x00, flags=0x41), run(5), REGISTERS, run(1), REGISTERS)
        self.assertEqual(told[1], DONE)
        self.assertEqual(told[3], [0, 0, 0, 0, 0xFF, 0x61, 0x06, 0x40])
        self.assertEqual(told[5], [0, 0x91, 0, 0, 0x00, 0xE1, 0x07, 0x40])


if __name__ == "__main__":
    unittest.main()
