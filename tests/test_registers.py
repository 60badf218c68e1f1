"""set, registers and reset."""

import unittest

from asking import DONE, NEW_SEVEN, REGISTERS, RESET
from asking import ask, memory_after, put, set_to

BIT_N, BIT_V, BIT_TOLD, BIT_BRK, BIT_D, BIT_I, BIT_Z, BIT_C = 128, 64, 32, 16, 8, 4, 2, 1
FLAG_BITS = (BIT_N, BIT_V, BIT_D, BIT_I, BIT_Z, BIT_C)


def seven_after(*calls):
    """What registers tells behind these calls, each of which must have been answered by 0."""
    told = ask(*calls, REGISTERS)
    if told[:-1] != [DONE] * len(calls) or told[-1][0] != 0:
        raise AssertionError(f"not answered by 0: {told}")
    return told[-1][1:]


def flags_after(*calls):
    return seven_after(*calls)[4]


class SetTest(unittest.TestCase):
    def test_all_seven(self):
        self.assertEqual(seven_after(set_to(11, 22, 33, 44, 0xE1, 66, 77)), [11, 22, 33, 44, 0xE1, 66, 77])

    def test_each_register_by_itself(self):
        for k in (0, 1, 2, 3, 5, 6):
            for byte in (1, 127, 128, 255):
                with self.subTest(k=k, byte=byte):
                    seven = [0] * 7
                    seven[k] = byte
                    expected = list(seven)
                    expected[4] = BIT_TOLD
                    self.assertEqual(seven_after(set_to(*seven)), expected)

    def test_each_register_alone_at_zero(self):
        for k in (0, 1, 2, 3, 5, 6):
            with self.subTest(k=k):
                seven = [255, 255, 255, 255, 0xEF, 255, 255]
                seven[k] = 0
                self.assertEqual(seven_after(set_to(*seven)), seven)

    def test_both_bytes_of_pc(self):
        for lower, upper in ((0, 0), (255, 0), (0, 255), (255, 255), (0x34, 0x12)):
            with self.subTest(lower=lower, upper=upper):
                self.assertEqual(seven_after(set_to(lower=lower, upper=upper))[5:], [lower, upper])

    def test_each_flag_by_itself(self):
        for bit in FLAG_BITS:
            with self.subTest(bit=bit):
                self.assertEqual(flags_after(set_to(flags=bit)), bit + BIT_TOLD)
                self.assertEqual(flags_after(set_to(flags=255 - bit)), 255 - bit - BIT_BRK)

    def test_no_flag_and_all_flags(self):
        self.assertEqual(flags_after(set_to(flags=0)), BIT_TOLD)
        self.assertEqual(flags_after(set_to(flags=255)), 0xEF)

    def test_bits_32_and_16_are_not_kept(self):
        for handed in (0, BIT_TOLD, BIT_BRK, BIT_TOLD + BIT_BRK):
            for flags in (0, BIT_I, 0xCF):
                with self.subTest(handed=handed, flags=flags):
                    self.assertEqual(flags_after(set_to(flags=handed + flags)), BIT_TOLD + flags)

    def test_every_byte_of_flags(self):
        for byte in range(256):
            self.assertEqual(flags_after(set_to(flags=byte)), byte & 0xCF | 0x20)

    def test_the_later_set_holds(self):
        first = set_to(255, 255, 255, 255, 255, 255, 255)
        self.assertEqual(seven_after(first, set_to(1, 2, 3, 4, 0, 6, 7)), [1, 2, 3, 4, 0x20, 6, 7])

    def test_what_was_told_set_again_is_told_again(self):
        told = seven_after(set_to(9, 8, 7, 6, 0x5F, 5, 4))
        self.assertEqual(seven_after(set_to(*told)), told)

    def test_the_memory_stays(self):
        self.assertEqual(memory_after(set_to(1, 2, 3, 4, 255, 6, 7), REGISTERS), [0] * 65536)


class RegistersTest(unittest.TestCase):
    def test_at_the_beginning(self):
        self.assertEqual(seven_after(), [0, 0, 0, 0xFD, BIT_TOLD + BIT_I, 0, 0])

    def test_it_changes_nothing(self):
        self.assertEqual(ask(REGISTERS, REGISTERS, REGISTERS), [[0] + NEW_SEVEN] * 3)


class ResetTest(unittest.TestCase):
    def test_at_the_beginning(self):
        self.assertEqual(seven_after(RESET), [0, 0, 0, 0xFA, BIT_TOLD + BIT_I, 0, 0])

    def test_s_goes_down_by_3_and_round(self):
        for before, after in ((255, 252), (4, 1), (3, 0), (2, 255), (1, 254), (0, 253)):
            with self.subTest(before=before):
                self.assertEqual(seven_after(set_to(s=before), RESET)[3], after)

    def test_i_is_1_and_d_is_0_whatever_they_were(self):
        for flags in (0, BIT_I, BIT_D, BIT_I + BIT_D):
            with self.subTest(flags=flags):
                self.assertEqual(flags_after(set_to(flags=flags), RESET), BIT_TOLD + BIT_I)

    def test_the_other_flags_stay(self):
        for byte in range(256):
            expected = byte & (BIT_N + BIT_V + BIT_Z + BIT_C) | BIT_TOLD | BIT_I
            self.assertEqual(flags_after(set_to(flags=byte), RESET), expected)

    def test_the_other_registers_stay(self):
        self.assertEqual(seven_after(set_to(11, 22, 33, 44, 0, 55, 66), RESET)[:3], [11, 22, 33])

    def test_pc_is_the_word_at_fffc(self):
        put_around = put(0xFFFA, [1, 2, 0x34, 0x12, 5, 6])
        self.assertEqual(seven_after(put_around, set_to(lower=9, upper=9), RESET)[5:], [0x34, 0x12])
        self.assertEqual(seven_after(put(0xFFFC, [255, 255]), RESET)[5:], [255, 255])
        self.assertEqual(seven_after(put(0xFFFC, [255, 0]), RESET)[5:], [255, 0])
        self.assertEqual(seven_after(put(0xFFFC, [0, 255]), RESET)[5:], [0, 255])

    def test_several_behind_one_another(self):
        calls = [put(0xFFFC, [0x78, 0x56]), set_to(1, 2, 3, 7, 0xFF, 4, 5)]
        told = ask(*calls, RESET, REGISTERS, RESET, REGISTERS, RESET, REGISTERS)
        seen = [[0, 1, 2, 3, s, 0xE7, 0x78, 0x56] for s in (4, 1, 254)]
        self.assertEqual(told[2:], [DONE, seen[0], DONE, seen[1], DONE, seen[2]])

    def test_s_after_a_whole_round(self):
        self.assertEqual(seven_after(set_to(s=9), *[RESET] * 256)[3], 9)

    def test_a_later_put_at_fffc_counts_for_the_next_reset(self):
        calls = [put(0xFFFC, [1, 2]), RESET, put(0xFFFC, [3, 4])]
        self.assertEqual(seven_after(*calls)[5:], [1, 2])
        self.assertEqual(seven_after(*calls, RESET)[5:], [3, 4])

    def test_the_memory_stays(self):
        row = [k % 251 for k in range(29000)]
        self.assertEqual(memory_after(put(0, row), set_to(s=1), RESET), row + [0] * 36536)


if __name__ == "__main__":
    unittest.main()
