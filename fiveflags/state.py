"""What the machine keeps from run to run, and what one run works on."""

BYTE_MASK = 255
WORD_MASK = 65535
MEMORY_SIZE = 65536

# Registers by number; 6 is the memory's byte at HL and has no place of its own.
AT_HL = 6
REGISTER_A = 7

# Pairs by number; in pushing and popping A with the flags stands for SP.
PAIR_HL = 2
PAIR_SP = 3

# Each one is its bit in the flags' byte.
SIGN = 128
ZERO = 64
HALF = 16
PARITY = 4
CARRY = 1
ALL_FIVE = 213


class Machine:
    """All that stays from run to run; a new one is as after a reset."""

    def __init__(self):
        self.registers = [0, 0, 0, 0, 0, 0, 0, 0]
        self.sp = 0
        self.pc = 0
        self.flags = 0
        self.halted = False

    def pair(self, number):
        if number == PAIR_SP:
            return self.sp
        return self.registers[2 * number] * 256 + self.registers[2 * number + 1]

    def set_pair(self, number, value):
        if number == PAIR_SP:
            self.sp = value & WORD_MASK
        else:
            self.registers[2 * number] = (value >> 8) & BYTE_MASK
            self.registers[2 * number + 1] = value & BYTE_MASK

    def set_carry(self, carry):
        self.flags = (self.flags & (ALL_FIVE - CARRY)) | carry


class Board:
    """The memory and the port of one run."""

    def __init__(self, memory, offered, room):
        self.cells = memory + [0] * (MEMORY_SIZE - len(memory))
        # What stood first at each place that was stored to, so that the
        # changes are found without a walk through the whole memory.
        self.stood_first = {}
        self.offered = offered
        self.taken = 0
        self.room = room
        self.written = []

    def store(self, place, value):
        if place not in self.stood_first:
            self.stood_first[place] = self.cells[place]
        self.cells[place] = value

    def word_at(self, place):
        return self.cells[place] + self.cells[(place + 1) & WORD_MASK] * 256

    def store_word(self, place, value):
        self.store(place, value & BYTE_MASK)
        self.store((place + 1) & WORD_MASK, value >> 8)

    def nothing_to_read(self):
        return self.taken == len(self.offered)

    def no_more_room(self):
        return len(self.written) == self.room

    def changes(self):
        """Place and byte, one behind the other, of each byte that is another now."""
        found = []
        for place in sorted(self.stood_first):
            if self.cells[place] != self.stood_first[place]:
                found.append(place)
                found.append(self.cells[place])
        return found


def read_numbered(machine, board, number):
    if number == AT_HL:
        return board.cells[machine.pair(PAIR_HL)]
    return machine.registers[number]


def write_numbered(machine, board, number, value):
    if number == AT_HL:
        board.store(machine.pair(PAIR_HL), value)
    else:
        machine.registers[number] = value


def next_byte(machine, board):
    place = machine.pc
    machine.pc = (place + 1) & WORD_MASK
    return board.cells[place]


def next_word(machine, board):
    place = machine.pc
    machine.pc = (place + 2) & WORD_MASK
    return board.word_at(place)


def push_word(machine, board, value):
    machine.sp = (machine.sp - 2) & WORD_MASK
    board.store_word(machine.sp, value)


def pop_word(machine, board):
    place = machine.sp
    machine.sp = (place + 2) & WORD_MASK
    return board.word_at(place)
