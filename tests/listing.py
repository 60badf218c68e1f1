"""Every instruction as it is shown at $4000 with the bytes $34 $12 behind its first one, by its first byte."""

PLACE = 0x4000
BEHIND = [0x34, 0x12]

ROWS = """
00 BRK       | 01 ORA ($34,X) | 05 ORA $34   | 06 ASL $34   | 08 PHP | 09 ORA #$34    | 0A ASL A
0D ORA $1234 | 0E ASL $1234   | 10 BPL $4036 | 11 ORA ($34),Y | 15 ORA $34,X | 16 ASL $34,X | 18 CLC
19 ORA $1234,Y | 1D ORA $1234,X | 1E ASL $1234,X
20 JSR $1234 | 21 AND ($34,X) | 24 BIT $34   | 25 AND $34   | 26 ROL $34 | 28 PLP | 29 AND #$34 | 2A ROL A
2C BIT $1234 | 2D AND $1234   | 2E ROL $1234 | 30 BMI $4036 | 31 AND ($34),Y | 35 AND $34,X | 36 ROL $34,X
38 SEC | 39 AND $1234,Y | 3D AND $1234,X | 3E ROL $1234,X
40 RTI | 41 EOR ($34,X) | 45 EOR $34 | 46 LSR $34 | 48 PHA | 49 EOR #$34 | 4A LSR A
4C JMP $1234 | 4D EOR $1234 | 4E LSR $1234 | 50 BVC $4036 | 51 EOR ($34),Y | 55 EOR $34,X | 56 LSR $34,X
58 CLI | 59 EOR $1234,Y | 5D EOR $1234,X | 5E LSR $1234,X
60 RTS | 61 ADC ($34,X) | 65 ADC $34 | 66 ROR $34 | 68 PLA | 69 ADC #$34 | 6A ROR A
6C JMP ($1234) | 6D ADC $1234 | 6E ROR $1234 | 70 BVS $4036 | 71 ADC ($34),Y | 75 ADC $34,X | 76 ROR $34,X
78 SEI | 79 ADC $1234,Y | 7D ADC $1234,X | 7E ROR $1234,X
81 STA ($34,X) | 84 STY $34 | 85 STA $34 | 86 STX $34 | 88 DEY | 8A TXA
8C STY $1234 | 8D STA $1234 | 8E STX $1234 | 90 BCC $4036 | 91 STA ($34),Y | 94 STY $34,X | 95 STA $34,X
96 STX $34,Y | 98 TYA | 99 STA $1234,Y | 9A TXS | 9D STA $1234,X
A0 LDY #$34 | A1 LDA ($34,X) | A2 LDX #$34 | A4 LDY $34 | A5 LDA $34 | A6 LDX $34 | A8 TAY | A9 LDA #$34 | AA TAX
AC LDY $1234 | AD LDA $1234 | AE LDX $1234 | B0 BCS $4036 | B1 LDA ($34),Y | B4 LDY $34,X | B5 LDA $34,X
B6 LDX $34,Y | B8 CLV | B9 LDA $1234,Y | BA TSX | BC LDY $1234,X | BD LDA $1234,X | BE LDX $1234,Y
C0 CPY #$34 | C1 CMP ($34,X) | C4 CPY $34 | C5 CMP $34 | C6 DEC $34 | C8 INY | C9 CMP #$34 | CA DEX
CC CPY $1234 | CD CMP $1234 | CE DEC $1234 | D0 BNE $4036 | D1 CMP ($34),Y | D5 CMP $34,X | D6 DEC $34,X
D8 CLD | D9 CMP $1234,Y | DD CMP $1234,X | DE DEC $1234,X
E0 CPX #$34 | E1 SBC ($34,X) | E4 CPX $34 | E5 SBC $34 | E6 INC $34 | E8 INX | E9 SBC #$34 | EA NOP
EC CPX $1234 | ED SBC $1234 | EE INC $1234 | F0 BEQ $4036 | F1 SBC ($34),Y | F5 SBC $34,X | F6 INC $34,X
F8 SED | F9 SBC $1234,Y | FD SBC $1234,X | FE INC $1234,X
"""

LISTING = {
    int(cell.split()[0], 16): cell.strip()[3:]
    for row in ROWS.strip().split("\n") for cell in row.split("|")
}
NOT_THERE = [byte for byte in range(256) if byte not in LISTING]
BRANCHES = ("BPL", "BMI", "BVC", "BVS", "BCC", "BCS", "BNE", "BEQ")
# These say themselves where PC goes.
LEADING = BRANCHES + ("BRK", "JSR", "RTI", "RTS", "JMP")

# An operand's form as it's shown, and its kind as the document names it.
KINDS = {
    "#$34": "#", "$34": "Z", "$34,X": "ZX", "$34,Y": "ZY", "$1234": "A", "$1234,X": "AX", "$1234,Y": "AY",
    "($34,X)": "IX", "($34),Y": "IY", "($1234)": "pointer", "$4036": "branch", "A": "register", "": "none",
}


def name_of(first):
    return LISTING[first][:3]


def kind_of(first):
    return KINDS[LISTING[first][4:]]


def size_of(first):
    """How many bytes the instruction has: one, and as many as its operand's digits fill."""
    if kind_of(first) == "branch":
        return 2
    return 1 + sum(sign.isdigit() for sign in LISTING[first][4:]) // 2


def first_byte(name, kind):
    """The first byte of a name with a kind of operand; fails where there isn't just one."""
    found = [first for first in LISTING if name_of(first) == name and kind_of(first) == kind]
    if len(found) != 1:
        raise LookupError(f"{name} {kind}: {found}")
    return found[0]
