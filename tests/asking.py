"""Builds lists of calls and takes the list of answers apart again."""

from eightbits.processor import answers

SMALLEST = -2147483648
GREATEST = 2147483647
MEMORY_SIZE = 65536
MOST_GOT = 1024

MOST_CALLS = 400
MOST_NUMBERS = 30000

REGISTERS = [4]
RESET = [5]
INIT = [9]

DONE = [0]
REFUSED = [-1]
ONE_STEP = [0, 1]
NEW_SEVEN = [0, 0, 0, 0xFD, 0x24, 0, 0]


def put(at, row):
    return [1, at, len(row), len(row)] + list(row)


def put_round(at, row):
    """The calls that put a row byte by byte, so that it may go round at $FFFF."""
    return [put((at + k) % MEMORY_SIZE, [byte]) for k, byte in enumerate(row)]


def refused_put(at, n):
    return [1, at, n, 0]


def get(at, n):
    return [2, at, n]


def set_to(a=0, x=0, y=0, s=0, flags=0, lower=0, upper=0):
    return [3, 7, a, x, y, s, flags, lower, upper]


def at_place(place, a=0, x=0, y=0, s=0, flags=0):
    """set, with PC in one number."""
    return set_to(a, x, y, s, flags, place % 256, place // 256)


def signal(line_number, edge_number):
    return [6, line_number, edge_number]


def run(n):
    return [7, n]


def show(at):
    return [8, at]


def get_all():
    """The calls that read the whole memory, one behind another."""
    return [get(at, MOST_GOT) for at in range(0, MEMORY_SIZE, MOST_GOT)]


def line(calls):
    return [number for call in calls for number in call]


def apart(told):
    """The answers one by one; fails where the counts don't fit the list."""
    each = []
    place = 0
    while place < len(told):
        count = told[place]
        answer = told[place + 1:place + 1 + count]
        if count < 1 or len(answer) != count:
            raise AssertionError(f"a count of {count} at {place} doesn't fit")
        each.append(answer)
        place += 1 + count
    return each


def ask(*calls):
    return apart(answers(line(calls)))


def memory_after(*calls):
    """The whole memory behind these calls."""
    got = ask(*calls, *get_all())[len(calls):]
    return [byte for answer in got for byte in answer[1:]]


def seven_after(*calls):
    """What registers tells behind these calls."""
    told = ask(*calls, REGISTERS)[-1]
    if told[0] != 0:
        raise AssertionError(f"registers wasn't answered by 0: {told}")
    return told[1:]


def pc_after(*calls):
    seven = seven_after(*calls)
    return seven[5] + 256 * seven[6]


def lines_of(before, groups):
    """Groups of calls packed into few lists, each of which has the calls before at its beginning."""
    packed = []
    room_calls = room_numbers = 0
    for group in groups:
        size = sum(len(call) for call in group)
        if len(group) > room_calls or size > room_numbers:
            packed.append([])
            room_calls = MOST_CALLS - len(before)
            room_numbers = MOST_NUMBERS - sum(len(call) for call in before)
        packed[-1].append(group)
        room_calls -= len(group)
        room_numbers -= size
    return packed


def ask_groups(before, groups):
    """The answers to each group of calls; a group must say itself what it relies on besides the calls before."""
    each = []
    for packed in lines_of(before, groups):
        told = ask(*before, *[call for group in packed for call in group])
        place = len(before)
        for group in packed:
            each.append(told[place:place + len(group)])
            place += len(group)
    return each


def text_of(answer):
    """The text that show answered; fails where something stands behind it or it isn't twelve bytes."""
    row = answer[1:]
    if len(row) != 12:
        raise AssertionError(f"not twelve bytes: {row}")
    text = "".join(chr(byte) for byte in row).rstrip("\0")
    if "\0" in text:
        raise AssertionError(f"something behind the text: {row}")
    return text
