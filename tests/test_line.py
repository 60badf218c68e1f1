"""The list of calls and the list of answers: how they stand, and that nothing is kept or changed."""

import contextlib
import io
import unittest
from unittest import mock

from asking import DONE, INIT, NEW_SEVEN, REGISTERS, REFUSED, RESET
from asking import ask, at_place, get, line, memory_after, put, refused_put, run, set_to, show, signal
from eightbits.processor import UnknownCall, answers

MIXED = line([
    put(0xFFFC, [0x34, 0x12]),
    set_to(1, 2, 3, 4, 0xFF, 5, 6),
    get(0xFFFB, 4),
    refused_put(-1, 1),
    RESET,
    REGISTERS,
    get(65536, 1),
    put(0x1234, [0xA9, 0x77, 0x02]),
    show(0x1234),
    run(2),
    signal(0, 1),
    run(1),
    run(-1),
    show(-1),
    INIT,
    REGISTERS,
])
MIXED_TOLD = [
    1, 0,
    1, 0,
    5, 0, 0, 0x34, 0x12, 0,
    1, -1,
    1, 0,
    8, 0, 1, 2, 3, 1, 0xE7, 0x34, 0x12,
    1, -1,
    1, 0,
    13, 2, 76, 68, 65, 32, 35, 36, 55, 55, 0, 0, 0, 0,
    2, 1, 1,
    1, 0,
    2, 0, 1,
    1, -1,
    1, -1,
    1, 0,
    8, 0, 0, 0, 0, 0xFD, 0x24, 0, 0,
]


class UnchangingList(list):
    """A list that fails as soon as somebody changes it, be it for a while."""

    def refuse(self, *given, **named):
        raise AssertionError("the list handed in was changed")

    append = extend = insert = pop = remove = clear = sort = reverse = refuse
    __setitem__ = __delitem__ = __iadd__ = __imul__ = refuse


class AnswersTest(unittest.TestCase):
    def test_empty_list(self):
        self.assertEqual(answers([]), [])

    def test_each_answer_has_its_count(self):
        self.assertEqual(answers(line([put(7, [1, 2])])), [1, 0])
        self.assertEqual(answers(line([refused_put(-1, 2)])), [1, -1])
        self.assertEqual(answers(line([get(0, 3)])), [4, 0, 0, 0, 0])
        self.assertEqual(answers(line([get(0, 0)])), [1, 0])
        self.assertEqual(answers(line([get(0, -1)])), [1, -1])
        self.assertEqual(answers(line([set_to()])), [1, 0])
        self.assertEqual(answers(REGISTERS), [8, 0] + NEW_SEVEN)
        self.assertEqual(answers(RESET), [1, 0])
        self.assertEqual(answers(signal(1, 1)), [1, 0])
        self.assertEqual(answers(run(0)), [2, 0, 0])
        self.assertEqual(answers(run(3)), [2, 0, 3])
        self.assertEqual(answers(line([put(0, [2]), run(3)])), [1, 0, 2, 1, 0])
        self.assertEqual(answers(run(-1)), [1, -1])
        self.assertEqual(answers(show(0)), [13, 1, 66, 82, 75, 0, 0, 0, 0, 0, 0, 0, 0, 0])
        self.assertEqual(answers(show(-1)), [1, -1])
        self.assertEqual(answers(INIT), [1, 0])

    def test_several_calls_in_one_list(self):
        self.assertEqual(answers(MIXED), MIXED_TOLD)

    def test_calls_of_one_list_are_about_one_processor(self):
        told = ask(put(5, [9]), set_to(a=8), get(5, 1), REGISTERS)
        self.assertEqual(told, [DONE, DONE, [0, 9], [0, 8, 0, 0, 0, 0x20, 0, 0]])

    def test_a_refused_put_is_followed_by_the_next_call(self):
        told = ask(refused_put(65536, 1), REGISTERS, refused_put(0, -3), get(0, 1))
        self.assertEqual(told, [REFUSED, [0] + NEW_SEVEN, REFUSED, [0, 0]])

    def test_four_hundred_calls(self):
        calls = [put(k, [k % 256]) for k in range(399)] + [get(0, 399)]
        expected = [DONE] * 399 + [[0] + [k % 256 for k in range(399)]]
        self.assertEqual(ask(*calls), expected)

    def test_no_other_number_is_a_call(self):
        for number in (0, -1, 10):
            with self.subTest(number=number):
                self.assertRaises(UnknownCall, answers, [number])


class BeginningTest(unittest.TestCase):
    def test_registers(self):
        self.assertEqual(ask(REGISTERS), [[0, 0, 0, 0, 0xFD, 0x24, 0, 0]])

    def test_memory(self):
        self.assertEqual(memory_after(), [0] * 65536)

    def test_a_new_list_begins_anew(self):
        ask(put(0, [255] * 29000), set_to(1, 2, 3, 4, 0xFF, 6, 7))
        ask(put(36536, [255] * 29000), RESET)
        ask(put(0x200, [0xA9, 0x99, 0x48, 0xF8]), at_place(0x200, s=9), run(3), signal(1, 1), run(1), signal(1, 1))
        self.assertEqual(ask(REGISTERS), [[0] + NEW_SEVEN])
        self.assertEqual(memory_after(), [0] * 65536)


class NothingKeptTest(unittest.TestCase):
    def test_the_list_handed_in_is_as_it_was(self):
        handed = list(MIXED)
        answers(handed)
        self.assertEqual(handed, MIXED)

    def test_the_list_handed_in_is_not_changed_for_a_while_either(self):
        self.assertEqual(answers(UnchangingList(MIXED)), MIXED_TOLD)

    def test_the_same_list_twice(self):
        handed = list(MIXED)
        self.assertEqual(answers(handed), answers(handed))

    def test_what_was_given_back_is_the_askers_own(self):
        handed = []
        given = answers(handed)
        given.append(1)
        self.assertEqual(handed, [])
        self.assertEqual(answers(handed), [])
        answers(MIXED).clear()
        self.assertEqual(answers(MIXED), MIXED_TOLD)

    def test_plain_kinds_are_given_back(self):
        given = answers(MIXED)
        self.assertIs(type(given), list)
        self.assertEqual({type(number) for number in given}, {int})

    def test_nothing_is_printed_read_or_imported(self):
        printed = io.StringIO()
        forbidden = AssertionError("reached out")
        with contextlib.redirect_stdout(printed), contextlib.redirect_stderr(printed), \
                mock.patch("builtins.open", side_effect=forbidden), \
                mock.patch("builtins.input", side_effect=forbidden), \
                mock.patch("builtins.__import__", side_effect=forbidden):
            given = answers(MIXED)
        self.assertEqual(given, MIXED_TOLD)
        self.assertEqual(printed.getvalue(), "")


if __name__ == "__main__":
    unittest.main()
