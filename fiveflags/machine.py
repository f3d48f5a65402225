"""The calls on one machine: reset, set, get and run."""

from fiveflags.arithmetic import set_flags
from fiveflags.instructions import READ_PORT, WRITE_PORT, carry_out
from fiveflags.state import AT_HL, BYTE_MASK, REGISTER_A, WORD_MASK, Board, Machine

REFUSED = -2
MOST = 1000000

# What set and get call these, beside the registers' own numbers.
WHICH_SP = 8
WHICH_PC = 9
WHICH_FLAGS = 10

CALL_RESET = 0
CALL_SET = 1
CALL_GET = 2

STEPS_OVER = 0
HALTED = 1
NOTHING_TO_READ = 2
NO_MORE_ROOM = 3


class Reader:
    """Goes through the calls, number by number, and only reads them."""

    def __init__(self, calls):
        self.calls = calls
        self.place = 0

    def at_end(self):
        return self.place >= len(self.calls)

    def take_number(self):
        number = self.calls[self.place]
        self.place = self.place + 1
        return number

    def take_row(self):
        size = self.take_number()
        row = self.calls[self.place:self.place + size]
        self.place = self.place + size
        return row


def is_known(which):
    return 0 <= which <= WHICH_FLAGS and which != AT_HL


def set_one(machine, which, value):
    if not is_known(which):
        return [REFUSED]
    if which <= REGISTER_A:
        machine.registers[which] = value & BYTE_MASK
    elif which == WHICH_SP:
        machine.sp = value & WORD_MASK
    elif which == WHICH_PC:
        machine.pc = value & WORD_MASK
    else:
        set_flags(machine, value)
    machine.halted = False
    return [0]


def get_one(machine, which):
    if not is_known(which):
        return [REFUSED]
    if which <= REGISTER_A:
        return [machine.registers[which]]
    if which == WHICH_SP:
        return [machine.sp]
    if which == WHICH_PC:
        return [machine.pc]
    return [machine.flags]


def port_stops(board, first):
    """Why the instruction with this first byte can't be begun; STEPS_OVER where it can."""
    if first == READ_PORT and board.nothing_to_read():
        return NOTHING_TO_READ
    if first == WRITE_PORT and board.no_more_room():
        return NO_MORE_ROOM
    return STEPS_OVER


def run_steps(machine, board, steps):
    """How many steps were carried out, and why no more."""
    done = 0
    why = STEPS_OVER
    while done < steps and not machine.halted:
        first = board.cells[machine.pc]
        why = port_stops(board, first)
        if why != STEPS_OVER:
            break
        machine.pc = (machine.pc + 1) & WORD_MASK
        carry_out(machine, board, first)
        done = done + 1
    if machine.halted:
        why = HALTED
    return (done, why)


def run(machine, steps, room, memory, offered):
    if not (0 <= steps <= MOST and 0 <= room <= MOST):
        return [REFUSED]
    board = Board(memory, offered, room)
    ended = run_steps(machine, board, steps)
    changes = board.changes()
    answer = [ended[0], ended[1], board.taken, len(board.written), len(board.written)]
    answer.extend(board.written)
    answer.append(len(changes))
    answer.extend(changes)
    return answer


def answer_call(machine, number, reader):
    if number == CALL_SET:
        which = reader.take_number()
        value = reader.take_number()
        return set_one(machine, which, value)
    if number == CALL_GET:
        return get_one(machine, reader.take_number())
    steps = reader.take_number()
    room = reader.take_number()
    memory = reader.take_row()
    offered = reader.take_row()
    return run(machine, steps, room, memory, offered)


def answers(calls):
    """For each call, in order, how many numbers are answered, and these."""
    reader = Reader(calls)
    machine = Machine()
    told = []
    while not reader.at_end():
        number = reader.take_number()
        if number == CALL_RESET:
            machine = Machine()
            answer = [0]
        else:
            answer = answer_call(machine, number, reader)
        told.append(len(answer))
        told.extend(answer)
    return told
