"""Steps: an interrupt, or the instruction at PC."""

from eightbits.going import go, goes_itself
from eightbits.machine import EDGE_PLACE, LINE_PLACE, MEMORY_SIZE
from eightbits.operands import operand_place
from eightbits.table import entry_of, length_of
from eightbits.working import work


def execute(machine):
    """The instruction at PC; False, with nothing changed, where the table has none."""
    entry = entry_of(machine.memory[machine.pc])
    if entry is None:
        return False
    name = entry[0]
    kind = entry[1]
    place = operand_place(machine, kind, machine.pc)
    if goes_itself(name):
        go(machine, name, place)
    else:
        work(machine, name, place)
        machine.pc = (machine.pc + length_of(kind)) % MEMORY_SIZE
    return True


def make_step(machine):
    """One step; False, with nothing changed, where there is none to make."""
    if machine.edge_came:
        machine.edge_came = False
        machine.interrupt(EDGE_PLACE, machine.pc, 0)
        return True
    if machine.line_low and machine.flag_i == 0:
        machine.interrupt(LINE_PLACE, machine.pc, 0)
        return True
    return execute(machine)


def make_steps(machine, n):
    """How many steps were made: n, or fewer where an instruction isn't in the table."""
    made = 0
    while made < n and make_step(machine):
        made = made + 1
    return made
