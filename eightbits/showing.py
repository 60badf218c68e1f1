"""An instruction as text."""

from eightbits.machine import BYTE_SIZE
from eightbits.operands import byte_behind, operand_place, word_behind
from eightbits.table import entry_of, length_of

DIGITS = "0123456789ABCDEF"
TEXT_SIZE = 12
UNKNOWN_TEXT = "?"
UNKNOWN_LENGTH = 1

# What stands ahead of an operand's digits and behind them.
FORMS = {
    "#": ("#$", ""),
    "Z": ("$", ""),
    "ZX": ("$", ",X"),
    "ZY": ("$", ",Y"),
    "A": ("$", ""),
    "AX": ("$", ",X"),
    "AY": ("$", ",Y"),
    "IX": ("($", ",X)"),
    "IY": ("($", "),Y"),
    "P": ("($", ")"),
    "B": ("$", ""),
}


def two_digits(byte):
    return DIGITS[byte // 16] + DIGITS[byte % 16]


def four_digits(word):
    return two_digits(word // BYTE_SIZE) + two_digits(word % BYTE_SIZE)


def operand_digits(machine, kind, at):
    if kind == "B":
        return four_digits(operand_place(machine, kind, at))
    if length_of(kind) == 3:
        return four_digits(word_behind(machine, at))
    return two_digits(byte_behind(machine, at))


def operand_text(machine, kind, at):
    form = FORMS[kind]
    return form[0] + operand_digits(machine, kind, at) + form[1]


def instruction_text(machine, name, kind, at):
    if kind == "":
        return name
    if kind == "R":
        return name + " A"
    return name + " " + operand_text(machine, kind, at)


def text_bytes(text):
    return [ord(sign) for sign in text] + [0] * (TEXT_SIZE - len(text))


def shown(machine, at):
    """How many bytes the instruction at a place has, then its text in twelve bytes."""
    entry = entry_of(machine.memory[at])
    if entry is None:
        return [UNKNOWN_LENGTH] + text_bytes(UNKNOWN_TEXT)
    name = entry[0]
    kind = entry[1]
    return [length_of(kind)] + text_bytes(instruction_text(machine, name, kind, at))
