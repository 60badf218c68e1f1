"""The instructions that say themselves where PC goes; until they do, it is the place of their first byte."""

from eightbits.machine import BIT_BRK, LINE_PLACE, MEMORY_SIZE


def place_further(machine, steps):
    return (machine.pc + steps) % MEMORY_SIZE


def branch(machine, place, taken):
    machine.pc = place if taken else place_further(machine, 2)


def do_bpl(machine, place):
    branch(machine, place, machine.flag_n == 0)


def do_bmi(machine, place):
    branch(machine, place, machine.flag_n == 1)


def do_bvc(machine, place):
    branch(machine, place, machine.flag_v == 0)


def do_bvs(machine, place):
    branch(machine, place, machine.flag_v == 1)


def do_bcc(machine, place):
    branch(machine, place, machine.flag_c == 0)


def do_bcs(machine, place):
    branch(machine, place, machine.flag_c == 1)


def do_bne(machine, place):
    branch(machine, place, machine.flag_z == 0)


def do_beq(machine, place):
    branch(machine, place, machine.flag_z == 1)


def do_jmp(machine, place):
    machine.pc = place


def do_jsr(machine, place):
    machine.push_word(place_further(machine, 2))
    machine.pc = place


def do_rts(machine, place):
    machine.pc = (machine.pull_word() + 1) % MEMORY_SIZE


def do_brk(machine, place):
    machine.interrupt(LINE_PLACE, place_further(machine, 2), BIT_BRK)


def do_rti(machine, place):
    machine.take_flags(machine.pull())
    machine.pc = machine.pull_word()


GOING = {
    "BPL": do_bpl,
    "BMI": do_bmi,
    "BVC": do_bvc,
    "BVS": do_bvs,
    "BCC": do_bcc,
    "BCS": do_bcs,
    "BNE": do_bne,
    "BEQ": do_beq,
    "JMP": do_jmp,
    "JSR": do_jsr,
    "RTS": do_rts,
    "BRK": do_brk,
    "RTI": do_rti,
}


def goes_itself(name):
    return name in GOING


def go(machine, name, place):
    GOING[name](machine, place)
