"""ADC and SBC over all pairs of A and operand with both values of C, in binary and in decimal digits."""

import unittest

from asking import ONE_STEP, REGISTERS
from asking import ask, ask_groups, at_place, put, run
from expected import after, five_of, state_of

ADC, SBC = 0x69, 0xE9
N, V, D, I, Z, C = 128, 64, 8, 4, 2, 1
TOLD = 32


def outcomes(first, cases):
    """A and flags behind first and its operand; each case: A, the operand, the flags before."""
    code = [byte for operand in range(256) for byte in (first, operand)]
    groups = [[at_place(2 * operand, a, 0x5A, 0xA5, 0x77, flags), run(1), REGISTERS] for a, operand, flags in cases]
    for case, told in zip(cases, ask_groups([put(0, code)], groups)):
        pc = 2 * case[1] + 2
        if told[1] != ONE_STEP or told[2][2:5] != [0x5A, 0xA5, 0x77] or told[2][6:] != [pc % 256, pc // 256]:
            raise AssertionError(f"{case}: {told}")
        yield case, (told[2][1], told[2][5])


class AllPairsTest(unittest.TestCase):
    def check(self, first, name, flag_bytes):
        for flags in flag_bytes:
            cases = [(a, operand, flags) for a in range(256) for operand in range(256)]
            for (a, operand, flags), told in outcomes(first, cases):
                state = after(name, state_of([a, 0, 0, 0, flags]), operand)[0]
                five = five_of(state)
                self.assertEqual(told, (five[0], five[4]), (name, a, operand, flags))

    def test_adc_binary(self):
        self.check(ADC, "ADC", (0, N + V + I + Z + C))

    def test_sbc_binary(self):
        self.check(SBC, "SBC", (N + V + I + Z, C))

    def test_adc_decimal(self):
        self.check(ADC, "ADC", (D, N + V + D + I + Z + C))

    def test_sbc_decimal(self):
        self.check(SBC, "SBC", (N + V + D + I + Z, D + C))


class DigitsTest(unittest.TestCase):
    """All numbers of two digits: what a sum on paper has."""

    def pairs(self, first, carry):
        numbers = [(n, n // 10 * 16 + n % 10) for n in range(100)]
        cases = [(a, b, D + carry) for n, a in numbers for m, b in numbers]
        for (a, b, flags), (result, told) in outcomes(first, cases):
            yield a // 16 * 10 + a % 16, b // 16 * 10 + b % 16, result // 16 * 10 + result % 16, told & C

    def test_adc(self):
        for carry in (0, 1):
            for n, m, result, told in self.pairs(ADC, carry):
                self.assertEqual((result, told), ((n + m + carry) % 100, (n + m + carry) // 100), (n, m, carry))

    def test_sbc(self):
        for carry in (0, 1):
            for n, m, result, told in self.pairs(SBC, carry):
                less = n - m - (1 - carry)
                self.assertEqual((result, told), (less % 100, int(less >= 0)), (n, m, carry))


class PlainNumbersTest(unittest.TestCase):
    """By numbers that are written out: A, the operand, the flags before; A and the flags behind."""

    def check(self, first, rows):
        cases = [row[:3] for row in rows]
        for row, (case, told) in zip(rows, outcomes(first, cases)):
            self.assertEqual(told, (row[3], row[4] + TOLD), [hex(number) for number in row])

    def test_adc_binary(self):
        self.check(ADC, [
            (0x00, 0x00, 0, 0x00, Z),
            (0x00, 0x00, C, 0x01, 0),
            (0x01, 0x01, 0, 0x02, 0),
            (0x7F, 0x01, 0, 0x80, N + V),
            (0x7F, 0x00, C, 0x80, N + V),
            (0x50, 0x50, 0, 0xA0, N + V),
            (0x80, 0x80, 0, 0x00, V + Z + C),
            (0x80, 0xFF, 0, 0x7F, V + C),
            (0x80, 0xFF, C, 0x80, N + C),
            (0xFF, 0x01, 0, 0x00, Z + C),
            (0xFF, 0xFF, C, 0xFF, N + C),
            (0xFF, 0x00, C, 0x00, Z + C),
            (0x50, 0x90, I, 0xE0, N + I),
            (0x09, 0x01, N + V + Z, 0x0A, 0),
        ])

    def test_sbc_binary(self):
        self.check(SBC, [
            (0x05, 0x03, C, 0x02, C),
            (0x05, 0x03, 0, 0x01, C),
            (0x05, 0x05, C, 0x00, Z + C),
            (0x05, 0x05, 0, 0xFF, N),
            (0x00, 0x01, C, 0xFF, N),
            (0x80, 0x01, C, 0x7F, V + C),
            (0x7F, 0xFF, C, 0x80, N + V),
            (0x50, 0xB0, C, 0xA0, N + V),
            (0xD0, 0x70, C, 0x60, V + C),
            (0x00, 0x00, C, 0x00, Z + C),
            (0x00, 0xFF, 0, 0x00, Z),
            (0x10, 0x01, N + V + Z + C, 0x0F, C),
        ])

    def test_adc_decimal_digits(self):
        self.check(ADC, [
            (0x05, 0x04, D, 0x09, D),
            (0x05, 0x05, D, 0x10, D),
            (0x09, 0x09, D + C, 0x19, D),
            (0x12, 0x34, D, 0x46, D),
            (0x58, 0x46, D + C, 0x05, N + V + D + C),
            (0x81, 0x92, D, 0x73, V + D + C),
            (0x99, 0x00, D, 0x99, N + D),
            # The binary sum is $9A: Z stays 0 though A is 0.
            (0x99, 0x01, D, 0x00, N + D + C),
            (0x99, 0x99, D + C, 0x99, V + D + C),
            (0x50, 0x50, D, 0x00, N + V + D + C),
            (0x00, 0x00, D, 0x00, Z + D),
            (0x00, 0x00, D + C, 0x01, D),
            (0x79, 0x00, D + C, 0x80, N + V + D),
        ])

    def test_adc_decimal_with_what_is_no_digit(self):
        self.check(ADC, [
            # l = 16, so 16 + 6; u = $16.
            (0x0F, 0x01, D, 0x16, D),
            # l = 30, so 16 + 4; u = $14.
            (0x0F, 0x0F, D, 0x14, D),
            # l = 10, so 16 + 0; u = $10.
            (0x0A, 0x00, D, 0x10, D),
            # l = 31, so 16 + 5; u = $F0 + $F0 + $15 = $1F5, and $60 more.
            (0xFF, 0xFF, D + C, 0x55, N + D + C),
            # l = 16, so 16 + 6; u = $F0 + $16 = $106, and $60 more; the binary sum is 0.
            (0xFF, 0x01, D, 0x66, Z + D + C),
            # u = $100 with no l, and $60 more; the binary sum is 0.
            (0x80, 0x80, D, 0x60, V + Z + D + C),
            # u = $A0, and $60 more.
            (0xA0, 0x00, D, 0x00, N + D + C),
            # u = $9F would be below, but l = 15 makes $90 + $15.
            (0x90, 0x0F, D, 0x05, N + D + C),
        ])

    def test_sbc_decimal_digits(self):
        self.check(SBC, [
            (0x46, 0x12, D + C, 0x34, D + C),
            (0x40, 0x13, D + C, 0x27, D + C),
            (0x32, 0x02, D, 0x29, D + C),
            (0x12, 0x21, D + C, 0x91, N + D),
            (0x21, 0x34, D + C, 0x87, N + D),
            (0x00, 0x01, D + C, 0x99, N + D),
            (0x00, 0x00, D, 0x99, N + D),
            (0x00, 0x00, D + C, 0x00, Z + D + C),
            (0x80, 0x01, D + C, 0x79, V + D + C),
            (0x99, 0x99, D + C, 0x00, Z + D + C),
        ])

    def test_sbc_decimal_with_what_is_no_digit(self):
        self.check(SBC, [
            # l = -15, so 11 - 16 = -5; u = -5, and $60 less: -$65.
            (0x00, 0x0F, D + C, 0x9B, N + D),
            # l = -16, so 10 - 16 = -6; u = -6, and $60 less: -$66.
            (0x00, 0x0F, D, 0x9A, N + D),
            # l = 15 isn't mended.
            (0x0F, 0x00, D + C, 0x0F, D + C),
            # u = $F0 isn't mended either.
            (0xFF, 0x0F, D + C, 0xF0, N + D + C),
            # u = -$F0, and $60 less: -$150.
            (0x00, 0xF0, D + C, 0xB0, D),
            # l = -1, so 9 - 16 = -7; u = -$F7, and $60 less: -$157.
            (0x00, 0xF0, D, 0xA9, D),
        ])

    def test_d_itself_stays(self):
        told = ask(put(0, [0xF8, ADC, 0x19, 0xD8, ADC, 0x19]), at_place(0, a=0x19), run(2), REGISTERS,
                   run(2), REGISTERS)
        self.assertEqual(told[3][1:6], [0x38, 0, 0, 0, TOLD + D])
        self.assertEqual(told[5][1:6], [0x51, 0, 0, 0, TOLD])


if __name__ == "__main__":
    unittest.main()
