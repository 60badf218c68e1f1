"""The processor as it stands: registers, flags, memory, and what has reached it from outside."""

MEMORY_SIZE = 65536
BYTE_SIZE = 256
FIRST_S = 0xFD
STACK_PLACE = 0x100
EDGE_PLACE = 0xFFFA
RESET_PLACE = 0xFFFC
LINE_PLACE = 0xFFFE

BIT_N = 128
BIT_V = 64
BIT_TOLD = 32
BIT_BRK = 16
BIT_D = 8
BIT_I = 4
BIT_Z = 2
BIT_C = 1


def bit_of(byte, bit):
    return 1 if byte & bit else 0


class Machine:
    """One processor with its memory; a new one is as init leaves it."""

    def __init__(self):
        self.init()

    def init(self):
        self.a = 0
        self.x = 0
        self.y = 0
        self.s = FIRST_S
        self.pc = 0
        self.flag_n = 0
        self.flag_v = 0
        self.flag_d = 0
        self.flag_i = 1
        self.flag_z = 0
        self.flag_c = 0
        self.memory = [0] * MEMORY_SIZE
        self.line_low = False
        self.edge_came = False

    def word_at(self, place):
        behind = (place + 1) % MEMORY_SIZE
        return self.memory[place] + BYTE_SIZE * self.memory[behind]

    def word_within_256(self, place):
        behind = place - place % BYTE_SIZE + (place + 1) % BYTE_SIZE
        return self.memory[place] + BYTE_SIZE * self.memory[behind]

    def put_bytes(self, at, row):
        for k, byte in enumerate(row):
            self.memory[at + k] = byte

    def get_bytes(self, at, n):
        return self.memory[at:at + n]

    def push(self, byte):
        self.memory[STACK_PLACE + self.s] = byte
        self.s = (self.s - 1) % BYTE_SIZE

    def pull(self):
        self.s = (self.s + 1) % BYTE_SIZE
        return self.memory[STACK_PLACE + self.s]

    def push_word(self, word):
        self.push(word // BYTE_SIZE)
        self.push(word % BYTE_SIZE)

    def pull_word(self):
        lower = self.pull()
        upper = self.pull()
        return lower + BYTE_SIZE * upper

    def set_zn(self, result):
        self.flag_z = 1 if result == 0 else 0
        self.flag_n = bit_of(result, BIT_N)

    def flags_byte(self):
        # Bits 32 and 16 are no flags: the one is always told as 1, the other as 0 but where BRK and PHP add it.
        return (
            BIT_N * self.flag_n
            + BIT_V * self.flag_v
            + BIT_TOLD
            + BIT_D * self.flag_d
            + BIT_I * self.flag_i
            + BIT_Z * self.flag_z
            + BIT_C * self.flag_c
        )

    def take_flags(self, byte):
        self.flag_n = bit_of(byte, BIT_N)
        self.flag_v = bit_of(byte, BIT_V)
        self.flag_d = bit_of(byte, BIT_D)
        self.flag_i = bit_of(byte, BIT_I)
        self.flag_z = bit_of(byte, BIT_Z)
        self.flag_c = bit_of(byte, BIT_C)

    def seven_bytes(self):
        lower = self.pc % BYTE_SIZE
        upper = self.pc // BYTE_SIZE
        return [self.a, self.x, self.y, self.s, self.flags_byte(), lower, upper]

    def take_seven(self, seven):
        self.a = seven[0]
        self.x = seven[1]
        self.y = seven[2]
        self.s = seven[3]
        self.take_flags(seven[4])
        self.pc = seven[5] + BYTE_SIZE * seven[6]

    def reset(self):
        self.s = (self.s - 3) % BYTE_SIZE
        self.flag_i = 1
        self.flag_d = 0
        self.pc = self.word_at(RESET_PLACE)
        self.edge_came = False

    def signal(self, line, edge):
        self.line_low = line != 0
        # An edge stays until a step or reset takes it: a later signal without one doesn't.
        if edge != 0:
            self.edge_came = True

    def interrupt(self, place, return_place, bit):
        """Goes on by the word at a place; the flags are pushed with one bit more, which may be 0."""
        self.push_word(return_place)
        self.push(self.flags_byte() + bit)
        self.flag_i = 1
        self.pc = self.word_at(place)
