"""The calls on one processor: read from a list of whole numbers, answered in another."""

from eightbits.machine import MEMORY_SIZE, Machine
from eightbits.showing import shown
from eightbits.stepping import make_steps

CALL_PUT = 1
CALL_GET = 2
CALL_SET = 3
CALL_REGISTERS = 4
CALL_RESET = 5
CALL_SIGNAL = 6
CALL_RUN = 7
CALL_SHOW = 8
CALL_INIT = 9

DONE = 0
CUT_SHORT = 1
REFUSED = -1

MOST_STEPS = 1000000000


class UnknownCall(ValueError):
    """A number that is no call's stands where a call begins."""


class CallReader:
    """Goes through the list of calls, number by number, and leaves it as it is."""

    def __init__(self, calls):
        self.calls = calls
        self.place = 0

    def at_end(self):
        return self.place >= len(self.calls)

    def take_number(self):
        number = self.calls[self.place]
        self.place = self.place + 1
        return number

    def take_row(self):
        length = self.take_number()
        row = self.calls[self.place:self.place + length]
        self.place = self.place + length
        return row


def lies_in_memory(at, n):
    return at >= 0 and n >= 0 and at + n <= MEMORY_SIZE


def answer_put(machine, reader):
    at = reader.take_number()
    n = reader.take_number()
    # The row is there, if empty, in a refused call too: it must be read before the answer.
    row = reader.take_row()
    if not lies_in_memory(at, n):
        return [REFUSED]
    machine.put_bytes(at, row)
    return [DONE]


def answer_get(machine, reader):
    at = reader.take_number()
    n = reader.take_number()
    if not lies_in_memory(at, n):
        return [REFUSED]
    return [DONE] + machine.get_bytes(at, n)


def answer_set(machine, reader):
    machine.take_seven(reader.take_row())
    return [DONE]


def answer_registers(machine):
    return [DONE] + machine.seven_bytes()


def answer_reset(machine):
    machine.reset()
    return [DONE]


def answer_signal(machine, reader):
    line = reader.take_number()
    edge = reader.take_number()
    machine.signal(line, edge)
    return [DONE]


def answer_run(machine, reader):
    n = reader.take_number()
    if n < 0 or n > MOST_STEPS:
        return [REFUSED]
    made = make_steps(machine, n)
    return [DONE if made == n else CUT_SHORT, made]


def answer_show(machine, reader):
    at = reader.take_number()
    if at < 0 or at >= MEMORY_SIZE:
        return [REFUSED]
    return shown(machine, at)


def answer_init(machine):
    machine.init()
    return [DONE]


def answer_call(machine, reader):
    call = reader.take_number()
    if call == CALL_PUT:
        return answer_put(machine, reader)
    if call == CALL_GET:
        return answer_get(machine, reader)
    if call == CALL_SET:
        return answer_set(machine, reader)
    if call == CALL_REGISTERS:
        return answer_registers(machine)
    if call == CALL_RESET:
        return answer_reset(machine)
    if call == CALL_SIGNAL:
        return answer_signal(machine, reader)
    if call == CALL_RUN:
        return answer_run(machine, reader)
    if call == CALL_SHOW:
        return answer_show(machine, reader)
    if call == CALL_INIT:
        return answer_init(machine)
    raise UnknownCall(f"no call has the number {call}")


def answers(calls):
    """The answers to calls on one new processor: for each, how many numbers, then these."""
    machine = Machine()
    reader = CallReader(calls)
    told = []
    while not reader.at_end():
        answer = answer_call(machine, reader)
        told.append(len(answer))
        told.extend(answer)
    return told
