"""The instructions behind which PC goes on to the next: what each does with the operand at a place."""

from eightbits.adding import add, subtract
from eightbits.machine import BIT_BRK, BIT_C, BIT_N, BIT_V, BYTE_SIZE, bit_of


def result_in_a(machine, result):
    machine.a = result
    machine.set_zn(result)


def result_in_x(machine, result):
    machine.x = result
    machine.set_zn(result)


def result_in_y(machine, result):
    machine.y = result
    machine.set_zn(result)


def result_at(machine, place, result):
    machine.memory[place] = result
    machine.set_zn(result)


def do_ora(machine, place):
    result_in_a(machine, machine.a | machine.memory[place])


def do_and(machine, place):
    result_in_a(machine, machine.a & machine.memory[place])


def do_eor(machine, place):
    result_in_a(machine, machine.a ^ machine.memory[place])


def do_adc(machine, place):
    add(machine, machine.memory[place])


def do_sbc(machine, place):
    subtract(machine, machine.memory[place])


def do_lda(machine, place):
    result_in_a(machine, machine.memory[place])


def do_ldx(machine, place):
    result_in_x(machine, machine.memory[place])


def do_ldy(machine, place):
    result_in_y(machine, machine.memory[place])


def do_sta(machine, place):
    machine.memory[place] = machine.a


def do_stx(machine, place):
    machine.memory[place] = machine.x


def do_sty(machine, place):
    machine.memory[place] = machine.y


def do_dec(machine, place):
    result_at(machine, place, (machine.memory[place] - 1) % BYTE_SIZE)


def do_inc(machine, place):
    result_at(machine, place, (machine.memory[place] + 1) % BYTE_SIZE)


def do_dex(machine, place):
    result_in_x(machine, (machine.x - 1) % BYTE_SIZE)


def do_dey(machine, place):
    result_in_y(machine, (machine.y - 1) % BYTE_SIZE)


def do_inx(machine, place):
    result_in_x(machine, (machine.x + 1) % BYTE_SIZE)


def do_iny(machine, place):
    result_in_y(machine, (machine.y + 1) % BYTE_SIZE)


def do_tax(machine, place):
    result_in_x(machine, machine.a)


def do_tay(machine, place):
    result_in_y(machine, machine.a)


def do_txa(machine, place):
    result_in_a(machine, machine.x)


def do_tya(machine, place):
    result_in_a(machine, machine.y)


def do_tsx(machine, place):
    result_in_x(machine, machine.s)


def do_txs(machine, place):
    machine.s = machine.x


def compare(machine, held, operand):
    machine.set_zn((held - operand) % BYTE_SIZE)
    machine.flag_c = 1 if held >= operand else 0


def do_cmp(machine, place):
    compare(machine, machine.a, machine.memory[place])


def do_cpx(machine, place):
    compare(machine, machine.x, machine.memory[place])


def do_cpy(machine, place):
    compare(machine, machine.y, machine.memory[place])


def do_bit(machine, place):
    operand = machine.memory[place]
    machine.flag_z = 1 if (machine.a & operand) == 0 else 0
    machine.flag_n = bit_of(operand, BIT_N)
    machine.flag_v = bit_of(operand, BIT_V)


def shifted_byte(machine, place):
    return machine.a if place is None else machine.memory[place]


def shift_done(machine, place, result):
    if place is None:
        result_in_a(machine, result)
    else:
        result_at(machine, place, result)


def shift_up(machine, place, coming_in):
    byte = shifted_byte(machine, place)
    machine.flag_c = bit_of(byte, BIT_N)
    shift_done(machine, place, byte * 2 % BYTE_SIZE + coming_in)


def shift_down(machine, place, coming_in):
    byte = shifted_byte(machine, place)
    machine.flag_c = bit_of(byte, BIT_C)
    shift_done(machine, place, byte // 2 + BIT_N * coming_in)


def do_asl(machine, place):
    shift_up(machine, place, 0)


def do_rol(machine, place):
    shift_up(machine, place, machine.flag_c)


def do_lsr(machine, place):
    shift_down(machine, place, 0)


def do_ror(machine, place):
    shift_down(machine, place, machine.flag_c)


def do_php(machine, place):
    machine.push(machine.flags_byte() + BIT_BRK)


def do_plp(machine, place):
    machine.take_flags(machine.pull())


def do_pha(machine, place):
    machine.push(machine.a)


def do_pla(machine, place):
    result_in_a(machine, machine.pull())


def do_clc(machine, place):
    machine.flag_c = 0


def do_sec(machine, place):
    machine.flag_c = 1


def do_cli(machine, place):
    machine.flag_i = 0


def do_sei(machine, place):
    machine.flag_i = 1


def do_clv(machine, place):
    machine.flag_v = 0


def do_cld(machine, place):
    machine.flag_d = 0


def do_sed(machine, place):
    machine.flag_d = 1


def do_nop(machine, place):
    pass


WORK = {
    "ORA": do_ora, "AND": do_and, "EOR": do_eor, "ADC": do_adc, "SBC": do_sbc,
    "STA": do_sta, "STX": do_stx, "STY": do_sty, "LDA": do_lda, "LDX": do_ldx, "LDY": do_ldy,
    "CMP": do_cmp, "CPX": do_cpx, "CPY": do_cpy, "BIT": do_bit,
    "ASL": do_asl, "ROL": do_rol, "LSR": do_lsr, "ROR": do_ror,
    "DEC": do_dec, "INC": do_inc, "DEX": do_dex, "DEY": do_dey, "INX": do_inx, "INY": do_iny,
    "TAX": do_tax, "TAY": do_tay, "TXA": do_txa, "TYA": do_tya, "TSX": do_tsx, "TXS": do_txs,
    "PHP": do_php, "PLP": do_plp, "PHA": do_pha, "PLA": do_pla,
    "CLC": do_clc, "SEC": do_sec, "CLI": do_cli, "SEI": do_sei, "CLV": do_clv, "CLD": do_cld, "SED": do_sed,
    "NOP": do_nop,
}


def work(machine, name, place):
    WORK[name](machine, place)
