"""Every first byte from $00 to $FF, by run and by show."""

import unittest

from asking import DONE, ONE_STEP, REGISTERS
from asking import ask_groups, at_place, put, run, show, text_of
from listing import BEHIND, LEADING, LISTING, NOT_THERE, PLACE
from listing import name_of, size_of

A, X, Y, S, FLAGS = 1, 2, 3, 0x80, 0
FIVE = [A, X, Y, S, 0x20]

# With no flag set, PC behind those that say themselves where it goes; the words at $FFFE, at $1234 and the
# bytes at $181 to $183 are put there for them.
LED_TO = {
    "BPL": 0x4036, "BVC": 0x4036, "BCC": 0x4036, "BNE": 0x4036,
    "BMI": 0x4002, "BVS": 0x4002, "BCS": 0x4002, "BEQ": 0x4002,
    "BRK": 0x5678, "JSR": 0x1234, "RTI": 0x2322, "RTS": 0x2222,
}
PUT_BEFORE = [put(0xFFFE, [0x78, 0x56]), put(0x1234, [0xBC, 0x9A]), put(0x181, [0x21, 0x22, 0x23])]


def place_led_to(first):
    if LISTING[first] == "JMP $1234":
        return 0x1234
    if LISTING[first] == "JMP ($1234)":
        return 0x9ABC
    if name_of(first) in LEADING:
        return LED_TO[name_of(first)]
    return PLACE + size_of(first)


def run_once(first):
    return [put(PLACE, [first] + BEHIND), at_place(PLACE, A, X, Y, S, FLAGS), run(1), REGISTERS]


class ListingTest(unittest.TestCase):
    def test_how_many_there_are(self):
        self.assertEqual(len(LISTING), 151)
        self.assertEqual(len({name_of(first) for first in LISTING}), 56)
        self.assertEqual(len(NOT_THERE), 105)
        for first in (0x02, 0x03, 0x80, 0x82, 0x89, 0x9C, 0x9E, 0xEB, 0xFF):
            self.assertIn(first, NOT_THERE)


class RunTest(unittest.TestCase):
    def test_every_byte_of_the_table_is_run(self):
        # A group a list, so that no instruction meets what another has stored.
        for first in LISTING:
            with self.subTest(first=hex(first)):
                told = ask_groups(PUT_BEFORE, [run_once(first)])[0]
                self.assertEqual(told[:3], [DONE, DONE, ONE_STEP])
                self.assertEqual(told[3][6] + 256 * told[3][7], place_led_to(first))

    def test_no_other_byte_is_run(self):
        for first, told in zip(NOT_THERE, ask_groups([], map(run_once, NOT_THERE))):
            with self.subTest(first=hex(first)):
                self.assertEqual(told, [DONE, DONE, [1, 0], [0] + FIVE + [0x00, 0x40]])


class ShowTest(unittest.TestCase):
    def test_every_byte(self):
        groups = [[put(PLACE, [first] + BEHIND), show(PLACE)] for first in range(256)]
        for first, told in enumerate(ask_groups([], groups)):
            with self.subTest(first=hex(first)):
                text = LISTING.get(first, "?")
                size = size_of(first) if first in LISTING else 1
                row = list(text.encode("ascii"))
                self.assertEqual(told, [DONE, [size] + row + [0] * (12 - len(row))])
                self.assertEqual(text_of(told[1]), text)

    def test_how_many_bytes(self):
        for first, size in (
            (0x00, 1), (0x0A, 1), (0xEA, 1), (0x60, 1), (0x40, 1), (0xA9, 2), (0xA5, 2), (0xB5, 2), (0xB6, 2),
            (0xA1, 2), (0xB1, 2), (0x10, 2), (0xAD, 3), (0xBD, 3), (0xB9, 3), (0x20, 3), (0x4C, 3), (0x6C, 3),
            (0x89, 1), (0xFF, 1),
        ):
            with self.subTest(first=hex(first)):
                told = ask_groups([], [[put(PLACE, [first] + BEHIND), show(PLACE)]])[0]
                self.assertEqual(told[1][0], size)


if __name__ == "__main__":
    unittest.main()
