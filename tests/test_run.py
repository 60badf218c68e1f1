"""run: how many steps, where it stops, what it refuses."""

import unittest

from asking import DONE, GREATEST, ONE_STEP, REFUSED, REGISTERS, SMALLEST
from asking import ask, at_place, get, memory_after, pc_after, put, run, seven_after, signal
from listing import NOT_THERE

CODE = 0x4000
FOREVER = [put(CODE, [0xE8, 0x4C, 0x00, 0x40]), at_place(CODE)]


class CountTest(unittest.TestCase):
    def test_none(self):
        self.assertEqual(ask(*FOREVER, run(0), REGISTERS)[-2:], [[0, 0], [0, 0, 0, 0, 0, 0x20, 0, 0x40]])

    def test_none_where_nothing_could_be_made(self):
        self.assertEqual(ask(put(CODE, [0x02]), at_place(CODE), run(0))[-1], [0, 0])

    def test_one(self):
        self.assertEqual(ask(*FOREVER, run(1), REGISTERS)[-2:], [ONE_STEP, [0, 0, 1, 0, 0, 0x20, 1, 0x40]])

    def test_a_thousand(self):
        told = ask(*FOREVER, run(1000), REGISTERS)
        self.assertEqual(told[-2:], [[0, 1000], [0, 0, 500 % 256, 0, 0, 0xA0, 0, 0x40]])

    def test_in_parts(self):
        whole = seven_after(*FOREVER, run(999))
        self.assertEqual(seven_after(*FOREVER, run(333), run(0), run(665), run(1)), whole)

    def test_the_most_calls_of_the_most_steps(self):
        told = ask(*FOREVER, *[run(1000)] * 397, REGISTERS)
        self.assertEqual(told[2:-1], [[0, 1000]] * 397)
        self.assertEqual(told[-1][2], 500 * 397 % 256)

    def test_from_the_very_beginning(self):
        # All of the memory is 0 then: BRK, again and again.
        self.assertEqual(ask(run(5), REGISTERS), [[0, 5], [0, 0, 0, 0, 0xEE, 0x24, 0, 0]])


class RefusedTest(unittest.TestCase):
    NUMBERS = (-1, -2, -1000, SMALLEST, 1000000001, GREATEST)

    def test_it_is_refused(self):
        for n in self.NUMBERS:
            with self.subTest(n=n):
                self.assertEqual(ask(*FOREVER, run(n))[-1], REFUSED)

    def test_nothing_has_changed(self):
        refused = [run(n) for n in self.NUMBERS]
        self.assertEqual(seven_after(*FOREVER, *refused), [0, 0, 0, 0, 0x20, 0, 0x40])
        self.assertEqual(memory_after(*FOREVER, *refused), memory_after(*FOREVER))

    def test_an_edge_and_the_line_stay(self):
        for signals, pc in ((signal(1, 0), 0x7000), (signal(0, 1), 0x5000)):
            calls = [put(0xFFFA, [0x00, 0x50, 0x00, 0x60, 0x00, 0x70]), *FOREVER, signals, run(-1), run(GREATEST)]
            self.assertEqual(pc_after(*calls), CODE)
            self.assertEqual(pc_after(*calls, run(1)), pc)


class NotInTheTableTest(unittest.TestCase):
    def test_at_once(self):
        for first in NOT_THERE:
            told = ask(put(CODE, [first, 0xE8]), at_place(CODE, 1, 2, 3, 4, 0xCF), run(7), REGISTERS)
            self.assertEqual(told[-2:], [[1, 0], [0, 1, 2, 3, 4, 0xEF, 0x00, 0x40]], hex(first))

    def test_after_some_steps(self):
        told = ask(put(CODE, [0xE8, 0xE8, 0xC8, 0x02, 0xE8]), at_place(CODE), run(1000), REGISTERS)
        self.assertEqual(told[-2:], [[1, 3], [0, 0, 2, 1, 0, 0x20, 0x03, 0x40]])

    def test_just_behind_the_steps_that_are_asked_for(self):
        calls = [put(CODE, [0xE8, 0xE8, 0xC8, 0x02]), at_place(CODE)]
        self.assertEqual(ask(*calls, run(2))[-1], [0, 2])
        self.assertEqual(ask(*calls, run(3))[-1], [0, 3])
        self.assertEqual(ask(*calls, run(4))[-1], [1, 3])

    def test_again_from_there(self):
        calls = [put(CODE, [0xE8, 0x02]), at_place(CODE), run(5)]
        self.assertEqual(ask(*calls, run(5), run(1), run(0))[2:], [[1, 1], [1, 0], [1, 0], [0, 0]])
        self.assertEqual(seven_after(*calls, run(5)), [0, 1, 0, 0, 0x20, 0x01, 0x40])

    def test_again_once_it_is_mended(self):
        calls = [put(CODE, [0xE8, 0x02, 0xE8, 0x02]), at_place(CODE), run(5), put(CODE + 1, [0xEA])]
        self.assertEqual(ask(*calls, run(5), REGISTERS)[-2:], [[1, 2], [0, 0, 2, 0, 0, 0x20, 0x03, 0x40]])

    def test_the_greatest_number_that_is_not_refused(self):
        self.assertEqual(ask(put(CODE, [0xE8, 0x02]), at_place(CODE), run(1000000000))[-1], [1, 1])

    def test_the_memory_stays(self):
        calls = [put(CODE, [0x02]), at_place(CODE)]
        self.assertEqual(memory_after(*calls, run(9)), memory_after(*calls))

    def test_at_the_memorys_end(self):
        calls = [put(0xFFFF, [0xE8]), put(0, [0x02]), at_place(0xFFFF)]
        self.assertEqual(ask(*calls, run(9))[-1], [1, 1])
        self.assertEqual(pc_after(*calls, run(9)), 0)


class ProgramTest(unittest.TestCase):
    def test_a_store_into_the_instruction_that_comes_next(self):
        # A9 E8 makes INX of the byte that would have stopped it; then of LDY's operand.
        code = [0xA9, 0xE8, 0x8D, 0x05, 0x40, 0x02]
        told = ask(put(CODE, code), at_place(CODE), run(3), REGISTERS, get(CODE + 5, 1))
        self.assertEqual(told[2:], [[0, 3], [0, 0xE8, 1, 0, 0, 0x20, 0x06, 0x40], [0, 0xE8]])
        code = [0xA9, 0x77, 0x8D, 0x06, 0x40, 0xA0, 0x11]
        self.assertEqual(seven_after(put(CODE, code), at_place(CODE), run(3))[2], 0x77)

    def test_a_store_that_takes_the_next_instruction_away(self):
        code = [0xA9, 0x02, 0x8D, 0x05, 0x40, 0xE8]
        told = ask(put(CODE, code), at_place(CODE), run(3), REGISTERS)
        self.assertEqual(told[2:], [[1, 2], [0, 2, 0, 0, 0, 0x20, 0x05, 0x40]])

    def test_a_store_into_its_own_bytes(self):
        # PC goes behind the instruction as it was when it began.
        told = ask(put(CODE, [0x8D, 0x00, 0x40, 0xE8]), at_place(CODE, a=0xEA), run(2), REGISTERS, get(CODE, 1))
        self.assertEqual(told[2:], [[0, 2], [0, 0xEA, 1, 0, 0, 0x20, 0x04, 0x40], [0, 0xEA]])

    def test_a_product(self):
        # 13 times 11 by adding, as a called part.
        code = [0xA2, 0x0D, 0x20, 0x10, 0x40, 0x85, 0x20, 0x02]
        part = [0xA9, 0x00, 0x18, 0x69, 0x0B, 0xCA, 0xD0, 0xFA, 0x60]
        calls = [put(CODE, code), put(CODE + 0x10, part), at_place(CODE, s=0xFF)]
        told = ask(*calls, run(1000), get(0x20, 1), REGISTERS)
        self.assertEqual(told[3:5], [[1, 2 + 1 + 13 * 4 + 1 + 1], [0, 143]])
        self.assertEqual(told[5], [0, 143, 0, 0, 0xFF, 0x22, 0x07, 0x40])

    def test_a_row_copied(self):
        code = [0xB1, 0x10, 0x91, 0x12, 0xC8, 0xD0, 0xF9, 0x02]
        row = [(7 * k + 3) % 256 for k in range(256)]
        calls = [put(0x10, [0x80, 0x20, 0xC0, 0x30]), put(0x2080, row), put(CODE, code), at_place(CODE)]
        told = ask(*calls, run(1000), run(1000), get(0x30C0, 256))
        self.assertEqual(told[4:6], [[0, 1000], [1, 24]])
        self.assertEqual(told[6], DONE + row)


if __name__ == "__main__":
    unittest.main()
