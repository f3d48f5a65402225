"""Point 3: the instructions with g = 1 and g = 2."""

import unittest

from tests.helpers import ALL_FIVE, C, DISTINCT, H, P, REGISTERS, S, Z, MachineCase, code, ran, szp

AT_HL = DISTINCT["H"] * 256 + DISTINCT["L"]
NUMBERS = (0x00, 0x01, 0x0F, 0x10, 0x7F, 0x80, 0x8F, 0xF0, 0xFF)


def with_byte_at_hl(first, value):
    memory = [first] + [0] * AT_HL
    memory[AT_HL] = value
    return memory


def operation(number, a, b, carry):
    """A and the flags after it, as the document tells them."""
    if number in (4, 5, 6):
        result = {4: a & b, 5: a ^ b, 6: a | b}[number]
        return result, szp(result)
    carry = carry if number in (1, 3) else 0
    sign = 1 if number in (0, 1) else -1
    whole = a + sign * (b + carry)
    low = a % 16 + sign * (b % 16 + carry)
    result = whole % 256
    flags = szp(result) + (H if not 0 <= low < 16 else 0) + (C if not 0 <= whole < 256 else 0)
    return (a if number == 7 else result), flags


class GroupOne(MachineCase):
    def test_register_d_becomes_register_o(self):
        for flags in (0, ALL_FIVE):
            for d in range(8):
                for o in range(8):
                    if d == 6 and o == 6:
                        continue
                    value = 0xE7 if o == 6 else DISTINCT[REGISTERS[o]]
                    memory = with_byte_at_hl(code(1, d, o), 0xE7)
                    after = {"PC": 1}
                    changes = []
                    if d == 6:
                        changes.append((AT_HL, value))
                    else:
                        after[REGISTERS[d]] = value
                    self.check(memory, {"F": flags}, after, changes)

    def test_6_with_6_halts(self):
        for flags in (0, ALL_FIVE):
            self.check([code(1, 6, 6)], {"F": flags}, {"PC": 1}, steps=9, told=ran(1, 1))


class GroupTwo(MachineCase):
    def operated(self, number, o, a, b, flags):
        memory = with_byte_at_hl(code(2, number, o), b)
        before = {"A": a, "F": flags}
        if o not in (6, 7):
            before[REGISTERS[o]] = b
        if o == 7:
            b = a
        result, flags_after = operation(number, a, b, flags % 2)
        self.check(memory, before, {"A": result, "F": flags_after, "PC": 1})

    def test_each_operation_on_each_register(self):
        for number in range(8):
            for o in (0, 1, 2, 3, 6, 7):
                for flags in (0, ALL_FIVE):
                    for a in (0x0F, 0x80, 0xC3):
                        self.operated(number, o, a, 0x81, flags)

    def test_each_operation_on_h_and_l(self):
        for number in range(8):
            for o in (4, 5):
                for flags in (0, ALL_FIVE):
                    b = DISTINCT[REGISTERS[o]]
                    result, flags_after = operation(number, 0x71, b, flags % 2)
                    self.check([code(2, number, o)], {"A": 0x71, "F": flags},
                               {"A": result, "F": flags_after, "PC": 1})

    def test_each_operation_at_the_edges(self):
        for number in range(8):
            for a in NUMBERS:
                for b in NUMBERS:
                    for flags in (0, C):
                        self.operated(number, 0, a, b, flags)

    def test_in_plain_numbers(self):
        for number, a, b, flags, result, flags_after in (
                (0, 0xFF, 0x01, C, 0x00, Z + H + P + C),
                (0, 0x7F, 0x01, 0, 0x80, S + H),
                (1, 0xFF, 0x00, C, 0x00, Z + H + P + C),
                (1, 0x0E, 0x00, C, 0x0F, P),
                (1, 0xFF, 0xFF, C, 0xFF, S + H + P + C),
                (2, 0x00, 0x01, 0, 0xFF, S + H + P + C),
                (2, 0x10, 0x10, C, 0x00, Z + P),
                (2, 0x10, 0x01, C, 0x0F, H + P),
                (3, 0x00, 0xFF, C, 0x00, Z + H + P + C),
                (3, 0x00, 0x0F, C, 0xF0, S + H + P + C),
                (3, 0x20, 0x0F, C, 0x10, H),
                (4, 0xF0, 0x3C, C + H, 0x30, P),
                (5, 0xFF, 0xFF, C + H, 0x00, Z + P),
                (6, 0x80, 0x01, C + H, 0x81, S + P),
                (7, 0x05, 0x05, C, 0x05, Z + P),
                (7, 0x05, 0x06, 0, 0x05, S + H + P + C)):
            self.check([code(2, number, 3)], {"A": a, "E": b, "F": flags},
                       {"A": result, "F": flags_after, "PC": 1})


if __name__ == "__main__":
    unittest.main()
