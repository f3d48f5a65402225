"""The instructions, by the three parts g, d and o of their first byte."""

from fiveflags.arithmetic import (
    adjust, condition_holds, flags_to_push, moved_left, moved_right, one_less, one_more, operate, set_flags,
)
from fiveflags.state import (
    AT_HL, BYTE_MASK, CARRY, PAIR_HL, PAIR_SP, REGISTER_A, WORD_MASK,
    next_byte, next_word, pop_word, push_word, read_numbered, write_numbered,
)

READ_PORT = 0xC4
WRITE_PORT = 0xCC


def load_byte(machine, board, d):
    write_numbered(machine, board, d, next_byte(machine, board))


def count_up(machine, board, d):
    write_numbered(machine, board, d, one_more(machine, read_numbered(machine, board, d)))


def count_down(machine, board, d):
    write_numbered(machine, board, d, one_less(machine, read_numbered(machine, board, d)))


def rotate_left(machine, board, d):
    carry = machine.flags & CARRY
    write_numbered(machine, board, d, moved_left(machine, read_numbered(machine, board, d), carry))


def rotate_right(machine, board, d):
    carry = machine.flags & CARRY
    write_numbered(machine, board, d, moved_right(machine, read_numbered(machine, board, d), carry))


def shift_left(machine, board, d):
    write_numbered(machine, board, d, moved_left(machine, read_numbered(machine, board, d), 0))


def shift_right(machine, board, d):
    write_numbered(machine, board, d, moved_right(machine, read_numbered(machine, board, d), 0))


def do_nothing(machine, board):
    pass


def adjust_a(machine, board):
    adjust(machine)


def turn_a(machine, board):
    machine.registers[REGISTER_A] = machine.registers[REGISTER_A] ^ BYTE_MASK


def carry_to_one(machine, board):
    machine.set_carry(CARRY)


def jump(machine, board):
    machine.pc = next_word(machine, board)


def call(machine, board):
    # The word is read before the push, which may store over it.
    target = next_word(machine, board)
    push_word(machine, board, machine.pc)
    machine.pc = target


def come_back(machine, board):
    machine.pc = pop_word(machine, board)


def jump_to_hl(machine, board):
    machine.pc = machine.pair(PAIR_HL)


SINGLE = (do_nothing, adjust_a, turn_a, carry_to_one, jump, call, come_back, jump_to_hl)


def single(machine, board, d):
    SINGLE[d](machine, board)


GROUP_0 = (load_byte, count_up, count_down, rotate_left, rotate_right, shift_left, shift_right, single)


def move(machine, board, d, o):
    if d == AT_HL and o == AT_HL:
        machine.halted = True
    else:
        write_numbered(machine, board, d, read_numbered(machine, board, o))


def jump_where(machine, board, d):
    target = next_word(machine, board)
    if condition_holds(machine, d):
        machine.pc = target


def call_where(machine, board, d):
    target = next_word(machine, board)
    if condition_holds(machine, d):
        push_word(machine, board, machine.pc)
        machine.pc = target


def come_back_where(machine, board, d):
    if condition_holds(machine, d):
        machine.pc = pop_word(machine, board)


def push_pair(machine, board, number):
    if number == PAIR_SP:
        push_word(machine, board, machine.registers[REGISTER_A] * 256 + flags_to_push(machine))
    else:
        push_word(machine, board, machine.pair(number))


def pop_pair(machine, board, number):
    value = pop_word(machine, board)
    if number == PAIR_SP:
        machine.registers[REGISTER_A] = value >> 8
        set_flags(machine, value)
    else:
        machine.set_pair(number, value)


def push_or_pop(machine, board, d):
    if d < 4:
        push_pair(machine, board, d)
    else:
        pop_pair(machine, board, d - 4)


def read_port(machine, board):
    machine.registers[REGISTER_A] = board.offered[board.taken]
    board.taken = board.taken + 1


def write_port(machine, board):
    board.written.append(machine.registers[REGISTER_A])


def hl_to_sp(machine, board):
    machine.sp = machine.pair(PAIR_HL)


def sp_to_hl(machine, board):
    machine.set_pair(PAIR_HL, machine.sp)


def load_a(machine, board):
    machine.registers[REGISTER_A] = board.cells[next_word(machine, board)]


def store_a(machine, board):
    board.store(next_word(machine, board), machine.registers[REGISTER_A])


def load_hl(machine, board):
    machine.set_pair(PAIR_HL, board.word_at(next_word(machine, board)))


def store_hl(machine, board):
    board.store_word(next_word(machine, board), machine.pair(PAIR_HL))


TRANSFER = (read_port, write_port, hl_to_sp, sp_to_hl, load_a, store_a, load_hl, store_hl)


def transfer(machine, board, d):
    TRANSFER[d](machine, board)


def operate_on_byte(machine, board, d):
    operate(machine, d, next_byte(machine, board))


def count_pair(machine, board, d):
    if d < 4:
        machine.set_pair(d, machine.pair(d) + 1)
    else:
        machine.set_pair(d - 4, machine.pair(d - 4) - 1)


def add_to_hl(machine, number):
    total = machine.pair(PAIR_HL) + machine.pair(number)
    machine.set_pair(PAIR_HL, total)
    machine.set_carry(CARRY if total > WORD_MASK else 0)


def load_or_add_pair(machine, board, d):
    if d < 4:
        machine.set_pair(d, next_word(machine, board))
    else:
        add_to_hl(machine, d - 4)


GROUP_3 = (
    jump_where, call_where, come_back_where, push_or_pop,
    transfer, operate_on_byte, count_pair, load_or_add_pair,
)


def carry_out(machine, board, first):
    """The instruction with this first byte, which PC has gone past already."""
    group = first >> 6
    d = (first >> 3) & 7
    o = first & 7
    if group == 0:
        GROUP_0[o](machine, board, d)
    elif group == 1:
        move(machine, board, d, o)
    elif group == 2:
        operate(machine, d, read_numbered(machine, board, o))
    else:
        GROUP_3[o](machine, board, d)
