"""Builds lists of calls and takes the list of answers apart again."""

from eightbits.processor import answers

SMALLEST = -2147483648
GREATEST = 2147483647
MEMORY_SIZE = 65536
MOST_GOT = 1024

REGISTERS = [4]
RESET = [5]

DONE = [0]
REFUSED = [-1]
NEW_SEVEN = [0, 0, 0, 0xFD, 0x24, 0, 0]


def put(at, row):
    return [1, at, len(row), len(row)] + list(row)


def refused_put(at, n):
    return [1, at, n, 0]


def get(at, n):
    return [2, at, n]


def set_to(a=0, x=0, y=0, s=0, flags=0, lower=0, upper=0):
    return [3, 7, a, x, y, s, flags, lower, upper]


def get_all():
    """The calls that read the whole memory, one behind another."""
    return [get(at, MOST_GOT) for at in range(0, MEMORY_SIZE, MOST_GOT)]


def line(calls):
    return [number for call in calls for number in call]


def apart(told):
    """The answers one by one; fails where the counts don't fit the list."""
    each = []
    place = 0
    while place < len(told):
        count = told[place]
        answer = told[place + 1:place + 1 + count]
        if count < 1 or len(answer) != count:
            raise AssertionError(f"a count of {count} at {place} doesn't fit")
        each.append(answer)
        place += 1 + count
    return each


def ask(*calls):
    return apart(answers(line(calls)))


def memory_after(*calls):
    """The whole memory behind these calls."""
    got = ask(*calls, *get_all())[len(calls):]
    return [byte for answer in got for byte in answer[1:]]
