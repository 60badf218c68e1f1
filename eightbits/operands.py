"""Where the operand of the instruction at a place lies."""

from eightbits.machine import BYTE_SIZE, MEMORY_SIZE

BRANCH_LENGTH = 2
FIRST_BACKWARDS = 128


def place_behind(at):
    return (at + 1) % MEMORY_SIZE


def byte_behind(machine, at):
    return machine.memory[place_behind(at)]


def word_behind(machine, at):
    return machine.word_at(place_behind(at))


def no_place(machine, at):
    return None


def place_itself(machine, at):
    return place_behind(at)


def place_z(machine, at):
    return byte_behind(machine, at)


def place_zx(machine, at):
    return (byte_behind(machine, at) + machine.x) % BYTE_SIZE


def place_zy(machine, at):
    return (byte_behind(machine, at) + machine.y) % BYTE_SIZE


def place_a(machine, at):
    return word_behind(machine, at)


def place_ax(machine, at):
    return (word_behind(machine, at) + machine.x) % MEMORY_SIZE


def place_ay(machine, at):
    return (word_behind(machine, at) + machine.y) % MEMORY_SIZE


def place_ix(machine, at):
    return machine.word_within_256(place_zx(machine, at))


def place_iy(machine, at):
    return (machine.word_within_256(byte_behind(machine, at)) + machine.y) % MEMORY_SIZE


def place_pointed(machine, at):
    return machine.word_within_256(word_behind(machine, at))


def place_branched(machine, at):
    distance = byte_behind(machine, at)
    if distance >= FIRST_BACKWARDS:
        distance = distance - BYTE_SIZE
    return (at + BRANCH_LENGTH + distance) % MEMORY_SIZE


PLACES = {
    "": no_place,
    "R": no_place,
    "#": place_itself,
    "Z": place_z,
    "ZX": place_zx,
    "ZY": place_zy,
    "A": place_a,
    "AX": place_ax,
    "AY": place_ay,
    "IX": place_ix,
    "IY": place_iy,
    "P": place_pointed,
    "B": place_branched,
}


def operand_place(machine, kind, at):
    """The operand's place, or where a jump or branch leads; None where there is none in the memory."""
    return PLACES[kind](machine, at)
