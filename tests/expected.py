"""What the document asks of an instruction's result and flags, worked out apart from the program."""

BITS = {"N": 128, "V": 64, "D": 8, "I": 4, "Z": 2, "C": 1}
ALL_BITS = 0xCF
TOLD = 0x20
BRK_BIT = 0x10

# Bytes at which carries, signs and digits turn.
EDGES = (0x00, 0x01, 0x02, 0x0F, 0x10, 0x3F, 0x40, 0x55, 0x7F, 0x80, 0x81, 0x99, 0xAA, 0xC0, 0xFE, 0xFF)


def state_of(seven):
    """Registers and flags by their letters."""
    state = dict(zip("AXYS", seven[:4]))
    state.update({letter: int(seven[4] & bit > 0) for letter, bit in BITS.items()})
    return state


def five_of(state):
    """A, X, Y, S and the flags' byte as registers tells them."""
    flags = TOLD + sum(bit for letter, bit in BITS.items() if state[letter])
    return [state[letter] for letter in "AXYS"] + [flags]


def signed(byte):
    return byte - 256 if byte > 127 else byte


def binary_sum(a, b, carry):
    """The byte, then N, V, Z, C: by signed and unsigned numbers in place of bits."""
    byte = (a + b + carry) % 256
    told = signed(a) + signed(b) + carry
    return byte, {
        "N": int(signed(byte) < 0),
        "V": int(told != signed(byte)),
        "Z": int(byte == 0),
        "C": int(a + b + carry != byte),
    }


def decimal_sum(a, b, carry):
    lower = (a & 15) + (b & 15) + carry
    if lower > 9:
        lower = ((lower + 6) & 15) + 16
    told = signed(a & 0xF0) + signed(b & 0xF0) + lower
    upper = (a & 0xF0) + (b & 0xF0) + lower
    mended = upper + 0x60 if upper > 0x9F else upper
    return mended & 255, {
        "N": int(told & 128 > 0),
        "V": int(not -128 <= told <= 127),
        "Z": binary_sum(a, b, carry)[1]["Z"],
        "C": int(mended > 255),
    }


def decimal_difference(a, b, carry):
    lower = (a & 15) - (b & 15) - (1 - carry)
    if lower < 0:
        lower = ((lower - 6) & 15) - 16
    upper = (a & 0xF0) - (b & 0xF0) + lower
    if upper < 0:
        upper -= 0x60
    return upper & 255, binary_sum(a, 255 - b, carry)[1]


def summed(name, state, operand):
    decimal = state["D"] == 1
    if name == "ADC":
        way = decimal_sum if decimal else binary_sum
        return way(state["A"], operand, state["C"])
    if decimal:
        return decimal_difference(state["A"], operand, state["C"])
    return binary_sum(state["A"], 255 - operand, state["C"])


def shifted(name, byte, carry):
    """The byte, then what falls out."""
    coming = carry if name in ("ROL", "ROR") else 0
    digits = f"{byte:08b}"
    if name in ("ASL", "ROL"):
        return int(digits[1:] + str(coming), 2), int(digits[0])
    return int(str(coming) + digits[:-1], 2), int(digits[-1])


def by_result(byte):
    return {"Z": int(byte == 0), "N": byte >> 7}


COMBINED = {"ORA": lambda a, b: a | b, "AND": lambda a, b: a & b, "EOR": lambda a, b: a ^ b}
COMPARED = {"CMP": "A", "CPX": "X", "CPY": "Y"}
MOVED = ("TAX", "TAY", "TXA", "TYA", "TSX", "TXS")
SET_OR_CLEARED = ("CLC", "SEC", "CLI", "SEI", "CLV", "CLD", "SED")
SHIFTS = ("ASL", "ROL", "LSR", "ROR")


def after(name, before, operand=None):
    """Registers and flags behind an instruction, and the operand's byte then."""
    state = dict(before)
    if name in COMBINED:
        state["A"] = COMBINED[name](before["A"], operand)
        state.update(by_result(state["A"]))
    elif name in ("ADC", "SBC"):
        state["A"], flags = summed(name, before, operand)
        state.update(flags)
    elif name in COMPARED:
        held = before[COMPARED[name]]
        state.update(by_result((held - operand) % 256), C=int(held >= operand))
    elif name == "BIT":
        state.update(Z=int(before["A"] & operand == 0), N=operand >> 7, V=operand >> 6 & 1)
    elif name in SHIFTS:
        operand, state["C"] = shifted(name, operand, before["C"])
        state.update(by_result(operand))
    elif name in ("DEC", "INC"):
        operand = (operand + (1 if name == "INC" else -1)) % 256
        state.update(by_result(operand))
    elif name[:2] == "LD":
        state[name[2]] = operand
        state.update(by_result(operand))
    elif name[:2] == "ST":
        operand = before[name[2]]
    elif name[:2] in ("DE", "IN"):
        state[name[2]] = (before[name[2]] + (1 if name[:2] == "IN" else -1)) % 256
        state.update(by_result(state[name[2]]))
    elif name in MOVED:
        state[name[2]] = before[name[1]]
        if name != "TXS":
            state.update(by_result(before[name[1]]))
    elif name in SET_OR_CLEARED:
        state[name[2]] = 1 if name[:2] == "SE" else 0
    elif name != "NOP":
        raise LookupError(name)
    return state, operand
