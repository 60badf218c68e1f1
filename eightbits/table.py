"""Which instruction begins with a byte: its name and its kind of operand.

The kinds: "" none, "R" A itself, "#" the byte itself, "Z" "ZX" "ZY" places in the first 256, "A" "AX" "AY"
places by a word, "IX" "IY" places by a word in the first 256, "P" JMP's pointer, "B" a branch's distance.
"""

LENGTHS = {
    "": 1, "R": 1,
    "#": 2, "Z": 2, "ZX": 2, "ZY": 2, "IX": 2, "IY": 2, "B": 2,
    "A": 3, "AX": 3, "AY": 3, "P": 3,
}

TABLE = {
    0x01: ("ORA", "IX"), 0x05: ("ORA", "Z"), 0x09: ("ORA", "#"), 0x0D: ("ORA", "A"),
    0x11: ("ORA", "IY"), 0x15: ("ORA", "ZX"), 0x19: ("ORA", "AY"), 0x1D: ("ORA", "AX"),
    0x21: ("AND", "IX"), 0x25: ("AND", "Z"), 0x29: ("AND", "#"), 0x2D: ("AND", "A"),
    0x31: ("AND", "IY"), 0x35: ("AND", "ZX"), 0x39: ("AND", "AY"), 0x3D: ("AND", "AX"),
    0x41: ("EOR", "IX"), 0x45: ("EOR", "Z"), 0x49: ("EOR", "#"), 0x4D: ("EOR", "A"),
    0x51: ("EOR", "IY"), 0x55: ("EOR", "ZX"), 0x59: ("EOR", "AY"), 0x5D: ("EOR", "AX"),
    0x61: ("ADC", "IX"), 0x65: ("ADC", "Z"), 0x69: ("ADC", "#"), 0x6D: ("ADC", "A"),
    0x71: ("ADC", "IY"), 0x75: ("ADC", "ZX"), 0x79: ("ADC", "AY"), 0x7D: ("ADC", "AX"),
    0x81: ("STA", "IX"), 0x85: ("STA", "Z"), 0x8D: ("STA", "A"),
    0x91: ("STA", "IY"), 0x95: ("STA", "ZX"), 0x99: ("STA", "AY"), 0x9D: ("STA", "AX"),
    0xA1: ("LDA", "IX"), 0xA5: ("LDA", "Z"), 0xA9: ("LDA", "#"), 0xAD: ("LDA", "A"),
    0xB1: ("LDA", "IY"), 0xB5: ("LDA", "ZX"), 0xB9: ("LDA", "AY"), 0xBD: ("LDA", "AX"),
    0xC1: ("CMP", "IX"), 0xC5: ("CMP", "Z"), 0xC9: ("CMP", "#"), 0xCD: ("CMP", "A"),
    0xD1: ("CMP", "IY"), 0xD5: ("CMP", "ZX"), 0xD9: ("CMP", "AY"), 0xDD: ("CMP", "AX"),
    0xE1: ("SBC", "IX"), 0xE5: ("SBC", "Z"), 0xE9: ("SBC", "#"), 0xED: ("SBC", "A"),
    0xF1: ("SBC", "IY"), 0xF5: ("SBC", "ZX"), 0xF9: ("SBC", "AY"), 0xFD: ("SBC", "AX"),

    0x06: ("ASL", "Z"), 0x0A: ("ASL", "R"), 0x0E: ("ASL", "A"), 0x16: ("ASL", "ZX"), 0x1E: ("ASL", "AX"),
    0x26: ("ROL", "Z"), 0x2A: ("ROL", "R"), 0x2E: ("ROL", "A"), 0x36: ("ROL", "ZX"), 0x3E: ("ROL", "AX"),
    0x46: ("LSR", "Z"), 0x4A: ("LSR", "R"), 0x4E: ("LSR", "A"), 0x56: ("LSR", "ZX"), 0x5E: ("LSR", "AX"),
    0x66: ("ROR", "Z"), 0x6A: ("ROR", "R"), 0x6E: ("ROR", "A"), 0x76: ("ROR", "ZX"), 0x7E: ("ROR", "AX"),
    0x86: ("STX", "Z"), 0x8E: ("STX", "A"), 0x96: ("STX", "ZY"),
    0xA2: ("LDX", "#"), 0xA6: ("LDX", "Z"), 0xAE: ("LDX", "A"), 0xB6: ("LDX", "ZY"), 0xBE: ("LDX", "AY"),
    0xC6: ("DEC", "Z"), 0xCE: ("DEC", "A"), 0xD6: ("DEC", "ZX"), 0xDE: ("DEC", "AX"),
    0xE6: ("INC", "Z"), 0xEE: ("INC", "A"), 0xF6: ("INC", "ZX"), 0xFE: ("INC", "AX"),

    0x24: ("BIT", "Z"), 0x2C: ("BIT", "A"),
    0x84: ("STY", "Z"), 0x8C: ("STY", "A"), 0x94: ("STY", "ZX"),
    0xA0: ("LDY", "#"), 0xA4: ("LDY", "Z"), 0xAC: ("LDY", "A"), 0xB4: ("LDY", "ZX"), 0xBC: ("LDY", "AX"),
    0xC0: ("CPY", "#"), 0xC4: ("CPY", "Z"), 0xCC: ("CPY", "A"),
    0xE0: ("CPX", "#"), 0xE4: ("CPX", "Z"), 0xEC: ("CPX", "A"),

    0x10: ("BPL", "B"), 0x30: ("BMI", "B"), 0x50: ("BVC", "B"), 0x70: ("BVS", "B"),
    0x90: ("BCC", "B"), 0xB0: ("BCS", "B"), 0xD0: ("BNE", "B"), 0xF0: ("BEQ", "B"),

    0x00: ("BRK", ""), 0x20: ("JSR", "A"), 0x40: ("RTI", ""), 0x60: ("RTS", ""),
    0x4C: ("JMP", "A"), 0x6C: ("JMP", "P"),
    0x08: ("PHP", ""), 0x28: ("PLP", ""), 0x48: ("PHA", ""), 0x68: ("PLA", ""),
    0x88: ("DEY", ""), 0xA8: ("TAY", ""), 0xC8: ("INY", ""), 0xE8: ("INX", ""),
    0x18: ("CLC", ""), 0x38: ("SEC", ""), 0x58: ("CLI", ""), 0x78: ("SEI", ""),
    0x98: ("TYA", ""), 0xB8: ("CLV", ""), 0xD8: ("CLD", ""), 0xF8: ("SED", ""),
    0x8A: ("TXA", ""), 0x9A: ("TXS", ""), 0xAA: ("TAX", ""), 0xBA: ("TSX", ""),
    0xCA: ("DEX", ""), 0xEA: ("NOP", ""),
}


def entry_of(first_byte):
    """Name and kind of operand, or None for a byte that no instruction begins with."""
    return TABLE.get(first_byte)


def length_of(kind):
    return LENGTHS[kind]
