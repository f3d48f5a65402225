"""What is reckoned with a byte, and the flags that follow from it."""

from fiveflags.state import ALL_FIVE, BYTE_MASK, CARRY, HALF, PARITY, REGISTER_A, SIGN, ZERO

# Of each number of four bits: 1 where its count of ones is odd.
ODD_ONES = (0, 1, 1, 0, 1, 0, 0, 1, 1, 0, 0, 1, 0, 1, 1, 0)

# The bit that conditions 0 and 1 (Z), 2 and 3 (C), 4 and 5 (P), 6 and 7 (S) ask for.
ASKED_FOR = (64, 1, 4, 128)


def condition_holds(machine, number):
    is_set = (machine.flags & ASKED_FOR[number >> 1]) != 0
    return is_set == ((number & 1) == 1)


def sign_zero_parity(result):
    bits = result & SIGN
    if result == 0:
        bits = bits | ZERO
    if ODD_ONES[result >> 4] == ODD_ONES[result & 15]:
        bits = bits | PARITY
    return bits


def sum_with_flags(machine, b, carry):
    a = machine.registers[REGISTER_A]
    total = a + b + carry
    result = total & BYTE_MASK
    bits = sign_zero_parity(result)
    if (a & 15) + (b & 15) + carry > 15:
        bits = bits | HALF
    if total > BYTE_MASK:
        bits = bits | CARRY
    machine.flags = bits
    return result


def difference_with_flags(machine, b, borrow):
    a = machine.registers[REGISTER_A]
    difference = a - b - borrow
    result = difference & BYTE_MASK
    bits = sign_zero_parity(result)
    if (a & 15) < (b & 15) + borrow:
        bits = bits | HALF
    if difference < 0:
        bits = bits | CARRY
    machine.flags = bits
    return result


def logic_with_flags(machine, result):
    machine.flags = sign_zero_parity(result)
    return result


def operate(machine, number, b):
    """Operation by its number on A and the byte b."""
    a = machine.registers[REGISTER_A]
    carry = machine.flags & CARRY
    if number == 0:
        result = sum_with_flags(machine, b, 0)
    elif number == 1:
        result = sum_with_flags(machine, b, carry)
    elif number == 2:
        result = difference_with_flags(machine, b, 0)
    elif number == 3:
        result = difference_with_flags(machine, b, carry)
    elif number == 4:
        result = logic_with_flags(machine, a & b)
    elif number == 5:
        result = logic_with_flags(machine, a ^ b)
    elif number == 6:
        result = logic_with_flags(machine, a | b)
    else:
        difference_with_flags(machine, b, 0)
        result = a
    machine.registers[REGISTER_A] = result


def set_all_but_carry(machine, result, half):
    bits = sign_zero_parity(result) | (machine.flags & CARRY)
    if half:
        bits = bits | HALF
    machine.flags = bits


def one_more(machine, value):
    result = (value + 1) & BYTE_MASK
    set_all_but_carry(machine, result, (value & 15) == 15)
    return result


def one_less(machine, value):
    result = (value - 1) & BYTE_MASK
    set_all_but_carry(machine, result, (value & 15) == 0)
    return result


def moved_left(machine, value, lowest):
    machine.set_carry(value >> 7)
    return ((value << 1) & BYTE_MASK) | lowest


def moved_right(machine, value, highest):
    machine.set_carry(value & 1)
    return (value >> 1) | (highest << 7)


def adjust(machine):
    before = machine.registers[REGISTER_A]
    flags = machine.flags
    result = before
    bits = 0
    if (before & 15) > 9 or (flags & HALF) != 0:
        result = result + 6
        if (before & 15) + 6 > 15:
            bits = HALF
    # The second question is about A as it was, not as the first addition left it.
    if before > 0x99 or (flags & CARRY) != 0:
        result = result + 0x60
        bits = bits | CARRY
    result = result & BYTE_MASK
    machine.registers[REGISTER_A] = result
    machine.flags = bits | sign_zero_parity(result)


def flags_to_push(machine):
    return machine.flags | 2


def set_flags(machine, value):
    machine.flags = value & ALL_FIVE
