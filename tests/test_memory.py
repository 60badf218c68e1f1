"""put and get: both ends of the memory, and what they refuse."""

import unittest

from asking import DONE, GREATEST, REFUSED, REGISTERS, SMALLEST
from asking import ask, get, memory_after, put, refused_put, set_to

# Each is outside the memory, whether it's put or got there.
OUTSIDE = [
    (-1, 0),
    (-1, 1),
    (-1, 65536),
    (-65536, 1),
    (0, -1),
    (1, -1),
    (65536, -1),
    (65537, -1),
    (-1, -1),
    (0, 65537),
    (1, 65536),
    (65535, 2),
    (65536, 1),
    (65537, 0),
    (32768, 32769),
    (SMALLEST, 0),
    (SMALLEST, 1),
    (SMALLEST, SMALLEST),
    (SMALLEST, GREATEST),
    (0, SMALLEST),
    (1, SMALLEST),
    (65536, SMALLEST),
    (GREATEST, 0),
    (GREATEST, 1),
    (GREATEST, -1),
    (GREATEST, -2147483647),
    (GREATEST, SMALLEST),
    (GREATEST, GREATEST),
    (0, GREATEST),
    (1, GREATEST),
    (65536, GREATEST),
]


def pattern(n, step=7):
    return [(k * step + 1) % 256 for k in range(n)]


class PutAndGetTest(unittest.TestCase):
    def test_what_was_put_is_got(self):
        told = ask(put(1000, [0, 1, 127, 128, 255]), get(1000, 5))
        self.assertEqual(told, [DONE, [0, 0, 1, 127, 128, 255]])

    def test_every_byte(self):
        self.assertEqual(ask(put(300, range(256)), get(300, 256)), [DONE, [0] + list(range(256))])

    def test_the_bytes_on_both_sides_stay(self):
        told = ask(put(500, [9] * 20), put(505, [1, 2, 3]), get(498, 24))
        around = [0] * 2 + [9] * 5 + [1, 2, 3] + [9] * 12 + [0] * 2
        self.assertEqual(told, [DONE, DONE, [0] + around])

    def test_all_the_rest_stays(self):
        for at in (0, 255, 256, 0x1FF, 0xFFFC, 65535):
            with self.subTest(at=at):
                expected = [0] * 65536
                expected[at] = 77
                self.assertEqual(memory_after(put(at, [77])), expected)

    def test_the_lower_end(self):
        told = ask(put(0, [5, 6, 7]), get(0, 4), get(65535, 1))
        self.assertEqual(told, [DONE, [0, 5, 6, 7, 0], [0, 0]])

    def test_the_upper_end(self):
        told = ask(put(65533, [5, 6, 7]), get(65532, 4), get(65535, 1), get(0, 1))
        self.assertEqual(told, [DONE, [0, 0, 5, 6, 7], [0, 7], [0, 0]])

    def test_none_at_the_very_end(self):
        self.assertEqual(ask(put(65536, []), get(65536, 0)), [DONE, DONE])

    def test_none_anywhere(self):
        for at in (0, 1, 4096, 65535, 65536):
            with self.subTest(at=at):
                self.assertEqual(ask(put(at, []), get(at, 0)), [DONE, DONE])
        self.assertEqual(memory_after(put(100, [])), [0] * 65536)

    def test_the_most_that_is_got(self):
        row = pattern(1024)
        for at in (0, 1, 30000, 64512):
            with self.subTest(at=at):
                self.assertEqual(ask(put(at, row), get(at, 1024)), [DONE, [0] + row])

    def test_the_most_that_is_put(self):
        row = pattern(29000)
        self.assertEqual(memory_after(put(0, row)), row + [0] * 36536)
        self.assertEqual(memory_after(put(36536, row)), [0] * 36536 + row)

    def test_the_later_put_holds(self):
        told = ask(put(10, [1, 2, 3, 4]), put(12, [5, 6, 7]), get(10, 5))
        self.assertEqual(told[2], [0, 1, 2, 5, 6, 7])

    def test_get_changes_nothing(self):
        told = ask(put(20, [1, 2]), get(19, 4), get(19, 4))
        self.assertEqual(told[1], told[2])
        self.assertEqual(told[1], [0, 0, 1, 2, 0])

    def test_the_registers_stay(self):
        seven = [1, 2, 3, 4, 0xEF, 6, 7]
        told = ask(set_to(*seven), put(0, pattern(600)), get(0, 600), REGISTERS)
        self.assertEqual(told[3], [0] + seven)


class RefusedTest(unittest.TestCase):
    def test_put(self):
        for at, n in OUTSIDE:
            with self.subTest(at=at, n=n):
                self.assertEqual(ask(refused_put(at, n)), [REFUSED])

    def test_get(self):
        for at, n in OUTSIDE:
            with self.subTest(at=at, n=n):
                self.assertEqual(ask(get(at, n)), [REFUSED])

    def test_nothing_has_changed(self):
        row = pattern(29000)
        seven = [1, 2, 3, 4, 0xEF, 6, 7]
        refused = [call for at, n in OUTSIDE for call in (refused_put(at, n), get(at, n))]
        for at in (0, 36536):
            with self.subTest(at=at):
                calls = [put(at, row), set_to(*seven)] + refused
                expected = [0] * at + row + [0] * (36536 - at)
                self.assertEqual(memory_after(*calls), expected)
                self.assertEqual(ask(*calls, REGISTERS)[-1], [0] + seven)


if __name__ == "__main__":
    unittest.main()
