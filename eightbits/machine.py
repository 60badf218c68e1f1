"""The processor as it stands: registers, flags, memory, and what has reached it from outside."""

MEMORY_SIZE = 65536
BYTE_SIZE = 256
FIRST_S = 0xFD
RESET_PLACE = 0xFFFC

BIT_N = 128
BIT_V = 64
BIT_TOLD = 32
BIT_D = 8
BIT_I = 4
BIT_Z = 2
BIT_C = 1


def bit_of(byte, bit):
    return 1 if byte & bit else 0


class Machine:
    """One processor with its memory; a new one is as init leaves it."""

    def __init__(self):
        self.a = 0
        self.x = 0
        self.y = 0
        self.s = FIRST_S
        self.pc = 0
        self.flag_n = 0
        self.flag_v = 0
        self.flag_d = 0
        self.flag_i = 1
        self.flag_z = 0
        self.flag_c = 0
        self.memory = [0] * MEMORY_SIZE
        self.line_low = False
        self.edge_came = False

    def word_at(self, place):
        behind = (place + 1) % MEMORY_SIZE
        return self.memory[place] + BYTE_SIZE * self.memory[behind]

    def put_bytes(self, at, row):
        for k, byte in enumerate(row):
            self.memory[at + k] = byte

    def get_bytes(self, at, n):
        return self.memory[at:at + n]

    def flags_byte(self):
        # Bits 32 and 16 are no flags: the one is always told as 1, the other as 0.
        return (
            BIT_N * self.flag_n
            + BIT_V * self.flag_v
            + BIT_TOLD
            + BIT_D * self.flag_d
            + BIT_I * self.flag_i
            + BIT_Z * self.flag_z
            + BIT_C * self.flag_c
        )

    def take_flags(self, byte):
        self.flag_n = bit_of(byte, BIT_N)
        self.flag_v = bit_of(byte, BIT_V)
        self.flag_d = bit_of(byte, BIT_D)
        self.flag_i = bit_of(byte, BIT_I)
        self.flag_z = bit_of(byte, BIT_Z)
        self.flag_c = bit_of(byte, BIT_C)

    def seven_bytes(self):
        lower = self.pc % BYTE_SIZE
        upper = self.pc // BYTE_SIZE
        return [self.a, self.x, self.y, self.s, self.flags_byte(), lower, upper]

    def take_seven(self, seven):
        self.a = seven[0]
        self.x = seven[1]
        self.y = seven[2]
        self.s = seven[3]
        self.take_flags(seven[4])
        self.pc = seven[5] + BYTE_SIZE * seven[6]

    def reset(self):
        self.s = (self.s - 3) % BYTE_SIZE
        self.flag_i = 1
        self.flag_d = 0
        self.pc = self.word_at(RESET_PLACE)
        self.edge_came = False
