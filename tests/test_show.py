"""show: the ends of the memory, the place a branch leads to, what is refused, and that it changes nothing."""

import unittest

from asking import DONE, GREATEST, REFUSED, REGISTERS, SMALLEST
from asking import ask, at_place, get, memory_after, put, put_round, run, seven_after, show, signal, text_of
from listing import LISTING


def shown(at, code):
    answer = ask(*put_round(at, code), show(at))[-1]
    return answer[0], text_of(answer)


class TextTest(unittest.TestCase):
    def test_twelve_bytes(self):
        told = ask(put(0, [0xB1, 0x0F]), show(0))
        self.assertEqual(told[1], [2, 76, 68, 65, 32, 40, 36, 48, 70, 41, 44, 89, 0])
        told = ask(put(0, [0xEA]), show(0))
        self.assertEqual(told[1], [1, 78, 79, 80, 0, 0, 0, 0, 0, 0, 0, 0, 0])
        told = ask(put(0, [0x02]), show(0))
        self.assertEqual(told[1], [1, 63, 0, 0, 0, 0, 0, 0, 0, 0, 0, 0, 0])

    def test_digits_and_capital_letters(self):
        for byte in range(256):
            self.assertEqual(shown(0x300, [0xA9, byte]), (2, "LDA #$" + format(byte, "02X")))
            self.assertEqual(shown(0x300, [0xAD, byte, 255 - byte]), (3, "LDA $" + format(65280 - 255 * byte, "04X")))

    def test_leading_noughts(self):
        self.assertEqual(shown(0x300, [0xA5, 0x00]), (2, "LDA $00"))
        self.assertEqual(shown(0x300, [0xAD, 0x00, 0x00]), (3, "LDA $0000"))
        self.assertEqual(shown(0x300, [0x6C, 0x05, 0x00]), (3, "JMP ($0005)"))

    def test_every_form(self):
        for code, text in (
            ([0x09, 0x12], "ORA #$12"), ([0x05, 0x12], "ORA $12"), ([0x15, 0x12], "ORA $12,X"),
            ([0xB6, 0x12], "LDX $12,Y"), ([0x0D, 0x34, 0x12], "ORA $1234"), ([0x1D, 0x34, 0x12], "ORA $1234,X"),
            ([0x19, 0x34, 0x12], "ORA $1234,Y"), ([0x01, 0x12], "ORA ($12,X)"), ([0x11, 0x12], "ORA ($12),Y"),
            ([0x0A, 0x12], "ASL A"), ([0x20, 0x34, 0x12], "JSR $1234"), ([0x4C, 0x34, 0x12], "JMP $1234"),
            ([0x6C, 0x34, 0x12], "JMP ($1234)"), ([0x10, 0x12], "BPL $0314"), ([0x00, 0x12], "BRK"),
            ([0x89, 0x12], "?"),
        ):
            self.assertEqual(shown(0x300, code)[1], text)

    def test_x_and_y_do_not_count(self):
        for code, text in (
            ([0xB5, 0xF0], "LDA $F0,X"), ([0xB9, 0xFF, 0xFF], "LDA $FFFF,Y"), ([0xA1, 0x00], "LDA ($00,X)"),
        ):
            told = ask(put(0x300, code), at_place(0x300, x=0x20, y=0x20), show(0x300))
            self.assertEqual(text_of(told[-1]), text)


class BranchTest(unittest.TestCase):
    def test_the_place_it_leads_to(self):
        for at, b, text in (
            (0x4000, 0x00, "BNE $4002"), (0x4000, 0x7F, "BNE $4081"), (0x4000, 0x80, "BNE $3F82"),
            (0x4000, 0xFE, "BNE $4000"), (0x4000, 0xFF, "BNE $4001"), (0x0000, 0x80, "BNE $FF82"),
            (0x0000, 0xFD, "BNE $FFFF"), (0xFFFE, 0x00, "BNE $0000"), (0xFFFE, 0x7F, "BNE $007F"),
            (0xFFFF, 0x05, "BNE $0006"), (0xFFFF, 0xF0, "BNE $FFF1"), (0xFFF0, 0x7F, "BNE $0071"),
        ):
            with self.subTest(at=hex(at), b=hex(b)):
                self.assertEqual(shown(at, [0xD0, b]), (2, text))

    def test_taken_or_not_it_is_shown_alike(self):
        for first in (0x10, 0x30, 0x50, 0x70, 0x90, 0xB0, 0xD0, 0xF0):
            told = [ask(put(0x300, [first, 5]), at_place(0x300, flags=flags), show(0x300))[-1] for flags in (0, 0xCF)]
            self.assertEqual(told[0], told[1])
            self.assertEqual(text_of(told[0]), LISTING[first][:3] + " $0307")

    def test_pc_does_not_count(self):
        for pc in (0, 0x300, 0x8000, 0xFFFF):
            told = ask(put(0x300, [0x90, 5]), at_place(pc), show(0x300))
            self.assertEqual(text_of(told[-1]), "BCC $0307")


class PlaceTest(unittest.TestCase):
    def test_the_first_and_the_last(self):
        self.assertEqual(shown(0, [0xA9, 0x12]), (2, "LDA #$12"))
        self.assertEqual(shown(65535, [0xEA]), (1, "NOP"))

    def test_its_bytes_go_round(self):
        self.assertEqual(shown(0xFFFF, [0xA9, 0x12]), (2, "LDA #$12"))
        self.assertEqual(shown(0xFFFF, [0xAD, 0x34, 0x12]), (3, "LDA $1234"))
        self.assertEqual(shown(0xFFFE, [0xBD, 0x34, 0x12]), (3, "LDA $1234,X"))
        self.assertEqual(shown(0xFFFD, [0xB9, 0x34, 0x12]), (3, "LDA $1234,Y"))
        self.assertEqual(shown(0xFFFF, [0xB1, 0x12]), (2, "LDA ($12),Y"))
        self.assertEqual(shown(0xFFFF, [0x6C, 0x34, 0x12]), (3, "JMP ($1234)"))
        self.assertEqual(shown(0xFFFE, [0x20, 0x34, 0x12]), (3, "JSR $1234"))

    def test_outside_it_is_refused(self):
        for at in (-1, -2, -65536, 65536, 65537, SMALLEST, GREATEST):
            with self.subTest(at=at):
                self.assertEqual(ask(show(at)), [REFUSED])

    def test_a_new_memory(self):
        for at in (0, 0x100, 65535):
            self.assertEqual(ask(show(at)), [[1, 66, 82, 75] + [0] * 9])


class ChangesNothingTest(unittest.TestCase):
    def test_no_register_and_no_byte(self):
        code = [0x8D, 0x34, 0x12, 0x48, 0xE6, 0x10, 0x20, 0x00, 0x50, 0x00, 0xF8, 0x02]
        calls = [put(0x300, code), at_place(0x300, 1, 2, 3, 4, 0xC1)]
        shows = [show(at) for at in list(range(0x300, 0x30C)) + [0, 65535, -1, 65536]]
        self.assertEqual(seven_after(*calls, *shows), [1, 2, 3, 4, 0xE1, 0, 3])
        self.assertEqual(memory_after(*calls, *shows), memory_after(*calls))

    def test_the_line_and_an_edge_stay(self):
        calls = [put(0xFFFA, [0x00, 0x50, 0x00, 0x60, 0x00, 0x70]), at_place(0x300)]
        for signals, upper in ((signal(1, 0), 0x70), (signal(0, 1), 0x50)):
            self.assertEqual(seven_after(*calls, signals, show(0x300), show(-1), run(1))[6], upper)

    def test_twice_the_same(self):
        told = ask(put(0x300, [0xBD, 0x34, 0x12]), show(0x300), show(0x300), get(0x300, 3), REGISTERS)
        self.assertEqual(told[0], DONE)
        self.assertEqual(told[1], told[2])


if __name__ == "__main__":
    unittest.main()
