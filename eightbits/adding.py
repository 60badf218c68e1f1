"""ADC and SBC, in binary and in decimal digits."""

from eightbits.machine import BIT_N, BYTE_SIZE, bit_of

DIGIT_SIZE = 16


def lower_four(byte):
    return byte % DIGIT_SIZE


def upper_four(byte):
    return byte - byte % DIGIT_SIZE


def sign_turned(a, operand, result):
    """1 where a and the operand have one sign and the result the other."""
    return bit_of((a ^ result) & (operand ^ result), BIT_N)


def add_binary(machine, operand):
    total = machine.a + operand + machine.flag_c
    result = total % BYTE_SIZE
    machine.flag_v = sign_turned(machine.a, operand, result)
    machine.flag_c = total // BYTE_SIZE
    machine.a = result
    machine.set_zn(result)


def add_decimal(machine, operand):
    total = machine.a + operand + machine.flag_c
    lower = lower_four(machine.a) + lower_four(operand) + machine.flag_c
    if lower >= 10:
        lower = 16 + lower_four(lower + 6)
    upper = upper_four(machine.a) + upper_four(operand) + lower
    # N and V are taken ahead of the upper digit's mending, Z from the binary sum: so the processor does it.
    machine.flag_n = bit_of(upper, BIT_N)
    machine.flag_v = sign_turned(machine.a, operand, upper % BYTE_SIZE)
    machine.flag_z = 1 if total % BYTE_SIZE == 0 else 0
    if upper >= 160:
        upper = upper + 96
    machine.flag_c = 1 if upper >= BYTE_SIZE else 0
    machine.a = upper % BYTE_SIZE


def decimal_difference(a, operand, carry):
    lower = lower_four(a) - lower_four(operand) + carry - 1
    if lower < 0:
        lower = lower_four(lower - 6) - 16
    upper = upper_four(a) - upper_four(operand) + lower
    if upper < 0:
        upper = upper - 96
    return upper % BYTE_SIZE


def subtract_binary(machine, operand):
    add_binary(machine, BYTE_SIZE - 1 - operand)


def subtract_decimal(machine, operand):
    difference = decimal_difference(machine.a, operand, machine.flag_c)
    # All flags are those of the binary difference: only what A holds is another.
    subtract_binary(machine, operand)
    machine.a = difference


def add(machine, operand):
    if machine.flag_d == 1:
        add_decimal(machine, operand)
    else:
        add_binary(machine, operand)


def subtract(machine, operand):
    if machine.flag_d == 1:
        subtract_decimal(machine, operand)
    else:
        subtract_binary(machine, operand)
