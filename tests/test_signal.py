"""signal, and the interrupts that come of it."""

import unittest

from asking import DONE, GREATEST, INIT, ONE_STEP, REGISTERS, RESET, SMALLEST
from asking import ask, at_place, get, memory_after, pc_after, put, run, seven_after, show, signal
from expected import ALL_BITS, TOLD

CODE, BY_EDGE, BY_RESET, BY_LINE = 0x4000, 0x5000, 0x6000, 0x7000
I = 4
VECTORS = put(0xFFFA, [0x00, 0x50, 0x00, 0x60, 0x00, 0x70])
NOPS = [put(place, [0xEA] * 8) for place in (CODE, BY_EDGE, BY_RESET, BY_LINE)]
READY = [VECTORS] + NOPS


class SignalTest(unittest.TestCase):
    def test_it_is_answered_by_0(self):
        for line in (0, 1, -1, SMALLEST, GREATEST):
            for edge in (0, 1, -1, SMALLEST, GREATEST):
                self.assertEqual(ask(signal(line, edge)), [DONE])

    def test_by_itself_it_changes_nothing_that_is_told(self):
        calls = READY + [at_place(CODE, 1, 2, 3, 4, 0)]
        signals = [signal(1, 1), signal(0, 1), signal(1, 0), signal(1, 1)]
        self.assertEqual(seven_after(*calls, *signals), [1, 2, 3, 4, 0x20, 0x00, 0x40])
        self.assertEqual(memory_after(*calls, *signals), memory_after(*calls))


class LineTest(unittest.TestCase):
    def test_with_i_0(self):
        for flags in (0, ALL_BITS - I):
            told = ask(*READY, at_place(CODE + 0x12, 1, 2, 3, 0xFF, flags), signal(1, 0), run(1), REGISTERS,
                       get(0x1FC, 4))
            self.assertEqual(told[-3], ONE_STEP)
            self.assertEqual(told[-2], [0, 1, 2, 3, 0xFC, flags | TOLD | I, 0x00, 0x70])
            self.assertEqual(told[-1], [0, 0, flags | TOLD, 0x12, 0x40])

    def test_with_i_1(self):
        calls = READY + [at_place(CODE, 1, 2, 3, 0xFF, I), signal(1, 0), run(1)]
        self.assertEqual(seven_after(*calls), [1, 2, 3, 0xFF, 0x24, 0x01, 0x40])
        self.assertEqual(ask(*calls, get(0x1FC, 4))[-1], [0, 0, 0, 0, 0])

    def test_any_number_but_0_makes_it_low(self):
        for line in (1, 2, -1, 256, SMALLEST, GREATEST):
            self.assertEqual(pc_after(*READY, at_place(CODE), signal(line, 0), run(1)), BY_LINE)
        self.assertEqual(pc_after(*READY, at_place(CODE), signal(0, 0), run(1)), CODE + 1)

    def test_it_stays_low_but_i_holds_it_off(self):
        calls = READY + [at_place(CODE), signal(1, 0)]
        self.assertEqual(pc_after(*calls, run(1)), BY_LINE)
        self.assertEqual(pc_after(*calls, run(2)), BY_LINE + 1)
        self.assertEqual(pc_after(*calls, run(4)), BY_LINE + 3)

    def test_it_comes_again_as_soon_as_i_is_0(self):
        calls = READY + [put(BY_LINE, [0x58]), at_place(CODE, s=0xFF), signal(1, 0)]
        self.assertEqual(seven_after(*calls, run(2))[3:], [0xFC, 0x20, 0x01, 0x70])
        self.assertEqual(seven_after(*calls, run(3))[3:], [0xF9, 0x24, 0x00, 0x70])
        self.assertEqual(ask(*calls, run(3), get(0x1FA, 6))[-1], [0, 0x20, 0x01, 0x70, 0x20, 0x00, 0x40])

    def test_rti_lets_it_come_again(self):
        calls = READY + [put(BY_LINE, [0xE8, 0x40]), at_place(CODE, s=0xFF), signal(1, 0)]
        self.assertEqual(seven_after(*calls, run(3)), [0, 1, 0, 0xFF, 0x20, 0x00, 0x40])
        self.assertEqual(seven_after(*calls, run(6)), [0, 2, 0, 0xFF, 0x20, 0x00, 0x40])

    def test_it_is_taken_back(self):
        calls = READY + [at_place(CODE), signal(1, 0), signal(0, 0), run(1)]
        self.assertEqual(pc_after(*calls), CODE + 1)

    def test_taken_back_after_an_interrupt(self):
        calls = READY + [put(BY_LINE, [0x40]), at_place(CODE, s=0xFF), signal(1, 0), run(1), signal(0, 0), run(2)]
        self.assertEqual(seven_after(*calls), [0, 0, 0, 0xFF, 0x20, 0x01, 0x40])

    def test_it_waits_for_i(self):
        calls = READY + [put(CODE, [0xEA, 0x58]), at_place(CODE, flags=I), signal(1, 0)]
        self.assertEqual(pc_after(*calls, run(2)), CODE + 2)
        self.assertEqual(pc_after(*calls, run(3)), BY_LINE)

    def test_reset_leaves_it(self):
        calls = READY + [put(BY_RESET, [0x58]), at_place(CODE), signal(1, 0), RESET]
        self.assertEqual(pc_after(*calls), BY_RESET)
        self.assertEqual(pc_after(*calls, run(1)), BY_RESET + 1)
        self.assertEqual(pc_after(*calls, run(2)), BY_LINE)

    def test_set_leaves_it(self):
        self.assertEqual(pc_after(*READY, signal(1, 0), at_place(CODE), run(1)), BY_LINE)

    def test_init_forgets_it(self):
        self.assertEqual(pc_after(signal(1, 0), INIT, *READY, at_place(CODE), run(1)), CODE + 1)


class EdgeTest(unittest.TestCase):
    def test_whatever_i_is(self):
        for flags in (0, I, ALL_BITS, ALL_BITS - I):
            with self.subTest(flags=flags):
                told = ask(*READY, at_place(CODE + 0x12, 1, 2, 3, 0xFF, flags), signal(0, 1), run(1), REGISTERS,
                           get(0x1FC, 4))
                self.assertEqual(told[-3], ONE_STEP)
                self.assertEqual(told[-2], [0, 1, 2, 3, 0xFC, flags | TOLD | I, 0x00, 0x50])
                self.assertEqual(told[-1], [0, 0, flags | TOLD, 0x12, 0x40])

    def test_any_number_but_0_is_an_edge(self):
        for edge in (1, 2, -1, 256, SMALLEST, GREATEST):
            self.assertEqual(pc_after(*READY, at_place(CODE), signal(0, edge), run(1)), BY_EDGE)

    def test_it_comes_once(self):
        self.assertEqual(pc_after(*READY, at_place(CODE), signal(0, 1), run(3)), BY_EDGE + 2)

    def test_two_are_as_one(self):
        self.assertEqual(pc_after(*READY, at_place(CODE), signal(0, 1), signal(0, 1), run(3)), BY_EDGE + 2)

    def test_a_later_one_comes_again(self):
        calls = READY + [at_place(CODE, s=0xFF), signal(0, 1), run(2), signal(0, 1)]
        self.assertEqual(seven_after(*calls, run(1))[3:], [0xF9, 0x24, 0x00, 0x50])

    def test_it_stays_from_one_signal_to_the_next(self):
        self.assertEqual(pc_after(*READY, at_place(CODE), signal(0, 1), signal(0, 0), run(1)), BY_EDGE)
        self.assertEqual(pc_after(*READY, at_place(CODE), signal(1, 1), signal(0, 0), run(2)), BY_EDGE + 1)

    def test_it_stays_over_other_calls(self):
        others = [put(0, [1]), get(0, 1), REGISTERS, show(CODE), run(0), run(-1), at_place(CODE)]
        self.assertEqual(pc_after(*READY, signal(0, 1), *others, run(1)), BY_EDGE)

    def test_reset_forgets_it(self):
        calls = READY + [at_place(CODE), signal(0, 1), RESET, run(1)]
        self.assertEqual(pc_after(*calls), BY_RESET + 1)

    def test_one_behind_reset_comes(self):
        calls = READY + [at_place(CODE), signal(0, 1), RESET, signal(0, 1), run(1)]
        self.assertEqual(pc_after(*calls), BY_EDGE)

    def test_init_forgets_it(self):
        self.assertEqual(pc_after(signal(0, 1), INIT, *READY, at_place(CODE), run(1)), CODE + 1)

    def test_a_new_list_knows_of_none(self):
        ask(signal(1, 1))
        self.assertEqual(pc_after(*READY, at_place(CODE), run(1)), CODE + 1)


class BothTest(unittest.TestCase):
    def test_the_edge_goes_first(self):
        calls = READY + [at_place(CODE, s=0xFF), signal(1, 1)]
        self.assertEqual(seven_after(*calls, run(1))[3:], [0xFC, 0x24, 0x00, 0x50])
        self.assertEqual(seven_after(*calls, run(2))[3:], [0xFC, 0x24, 0x01, 0x50])

    def test_the_line_comes_behind_it_where_i_is_0_again(self):
        calls = READY + [put(BY_EDGE, [0x40]), at_place(CODE, s=0xFF), signal(1, 1)]
        self.assertEqual(seven_after(*calls, run(2))[3:], [0xFF, 0x20, 0x00, 0x40])
        self.assertEqual(seven_after(*calls, run(3))[3:], [0xFC, 0x24, 0x00, 0x70])

    def test_an_edge_comes_into_the_lines_interrupt(self):
        calls = READY + [at_place(CODE, s=0xFF), signal(1, 0), run(1), signal(1, 1), run(1)]
        self.assertEqual(seven_after(*calls)[3:], [0xF9, 0x24, 0x00, 0x50])
        self.assertEqual(ask(*calls, get(0x1FA, 6))[-1], [0, 0x24, 0x00, 0x70, 0x20, 0x00, 0x40])

    def test_s_goes_round(self):
        for signals, pc in ((signal(1, 0), BY_LINE), (signal(0, 1), BY_EDGE)):
            calls = READY + [at_place(CODE + 1, s=0x01), signals, run(1)]
            self.assertEqual(seven_after(*calls)[3], 0xFE)
            self.assertEqual(pc_after(*calls), pc)
            self.assertEqual(ask(*calls, get(0x100, 2), get(0x1FF, 1))[-2:], [[0, 0x01, 0x40], [0, 0x20]])

    def test_where_what_is_not_in_the_table_stands_at_pc(self):
        for signals, pc in ((signal(1, 0), BY_LINE), (signal(0, 1), BY_EDGE)):
            calls = READY + [put(CODE, [0x02]), at_place(CODE, s=0xFF)]
            self.assertEqual(ask(*calls, run(1))[-1], [1, 0])
            self.assertEqual(ask(*calls, signals, run(1))[-1], ONE_STEP)
            self.assertEqual(pc_after(*calls, signals, run(1)), pc)
            self.assertEqual(ask(*calls, signals, run(3))[-1], [0, 3])

    def test_back_at_what_is_not_in_the_table(self):
        calls = READY + [put(CODE, [0x02]), put(BY_EDGE, [0x40]), at_place(CODE), signal(0, 1)]
        self.assertEqual(ask(*calls, run(9))[-1], [1, 2])
        self.assertEqual(pc_after(*calls, run(9)), CODE)

    def test_held_off_where_what_is_not_in_the_table_stands_at_pc(self):
        calls = READY + [put(CODE, [0x02]), at_place(CODE, flags=I), signal(1, 0)]
        self.assertEqual(ask(*calls, run(1))[-1], [1, 0])

    def test_brk_while_the_line_is_low(self):
        calls = READY + [put(CODE, [0x00]), at_place(CODE, s=0xFF, flags=I), signal(1, 0), run(1)]
        self.assertEqual(ask(*calls, get(0x1FD, 3))[-1], [0, 0x34, 0x02, 0x40])


if __name__ == "__main__":
    unittest.main()
