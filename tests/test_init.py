"""init: in the middle of a list the processor is as at its beginning."""

import unittest

from asking import DONE, INIT, NEW_SEVEN, REGISTERS, RESET
from asking import ask, at_place, get, memory_after, put, run, set_to, seven_after, show, signal
from expected import TOLD

CODE = 0x4000
ROW = [k % 255 + 1 for k in range(14000)]
BUSY = [
    put(0, ROW),
    put(51536, ROW),
    set_to(1, 2, 3, 4, 0xFF, 5, 6),
    RESET,
    put(CODE, [0xF8, 0x48, 0x85, 0x90, 0x38]),
    at_place(CODE, 1, 2, 3, 4, 0xC9),
    run(5),
    signal(1, 1),
    run(1),
    signal(1, 1),
    show(CODE),
]


class InitTest(unittest.TestCase):
    def test_at_the_very_beginning(self):
        self.assertEqual(ask(INIT, REGISTERS), [DONE, [0] + NEW_SEVEN])

    def test_it_is_answered_by_0(self):
        self.assertEqual(ask(*BUSY, INIT)[-1], DONE)

    def test_registers_and_flags(self):
        self.assertNotEqual(seven_after(*BUSY), NEW_SEVEN)
        self.assertEqual(seven_after(*BUSY, INIT), [0, 0, 0, 0xFD, TOLD + 4, 0, 0])
        self.assertEqual(seven_after(set_to(255, 255, 255, 255, 255, 255, 255), INIT), NEW_SEVEN)
        self.assertEqual(seven_after(set_to(), INIT), NEW_SEVEN)

    def test_memory(self):
        self.assertEqual(memory_after(*BUSY, INIT), [0] * 65536)

    def test_the_line_and_an_edge(self):
        calls = [put(0xFFFA, [0x00, 0x50, 0x00, 0x60, 0x00, 0x70]), put(CODE, [0xEA]), at_place(CODE), run(1)]
        self.assertEqual(seven_after(*BUSY, INIT, *calls)[5:], [0x01, 0x40])

    def test_what_comes_behind_is_as_in_a_new_list(self):
        calls = [REGISTERS, get(0, 1024), put(CODE, [0x69, 0x05, 0x08, 0x00]), show(CODE), at_place(CODE, 9, s=7),
                 run(3), REGISTERS, get(0x100, 8), RESET, REGISTERS, run(2), REGISTERS]
        self.assertEqual(ask(*BUSY, INIT, *calls)[len(BUSY) + 1:], ask(*calls))

    def test_again_and_again(self):
        told = ask(*[INIT, put(7, [9]), signal(1, 1), run(2), INIT, get(7, 1), REGISTERS] * 50)
        for k in range(0, len(told), 7):
            self.assertEqual(told[k + 4:k + 7], [DONE, [0, 0], [0] + NEW_SEVEN])

    def test_four_hundred(self):
        self.assertEqual(ask(*[INIT] * 400), [DONE] * 400)


if __name__ == "__main__":
    unittest.main()
