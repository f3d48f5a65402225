"""Point 3: the instructions with g = 0."""

import unittest

from tests.helpers import ALL_FIVE, C, DISTINCT, H, REGISTERS, MachineCase, code, szp, word

BYTES = (0x00, 0x01, 0x0F, 0x10, 0x35, 0x7F, 0x80, 0x8F, 0x99, 0xAA, 0xF0, 0xFE, 0xFF)
AT_HL = DISTINCT["H"] * 256 + DISTINCT["L"]


def with_byte_at_hl(first, value):
    memory = list(first) + [0] * (AT_HL + 1 - len(first))
    memory[AT_HL] = value
    return memory


class OnARegister(MachineCase):
    def changed(self, o, value, flags, result, flags_after):
        """Instruction o on each register d, the memory's byte at HL too."""
        for d in range(8):
            first = [code(0, d, o)]
            after = {"PC": 1, "F": flags_after}
            if d == 6:
                changes = [(AT_HL, result)] if result != value else []
                self.check(with_byte_at_hl(first, value), {"F": flags}, after, changes)
            else:
                name = REGISTERS[d]
                self.check(first, {"F": flags, name: value}, {**after, name: result})

    def test_register_becomes_a_byte(self):
        for flags in (0, ALL_FIVE):
            for d in range(8):
                first = [code(0, d, 0), 0x9A]
                if d == 6:
                    self.check(first, {"F": flags}, {"PC": 2}, [(AT_HL, 0x9A)])
                else:
                    self.check(first, {"F": flags}, {"PC": 2, REGISTERS[d]: 0x9A})

    def test_one_more(self):
        for flags in (0, C, ALL_FIVE):
            for value in BYTES:
                result = (value + 1) % 256
                half = H if value % 16 == 15 else 0
                self.changed(1, value, flags, result, szp(result) + half + flags % 2)

    def test_one_less(self):
        for flags in (0, C, ALL_FIVE):
            for value in BYTES:
                result = (value - 1) % 256
                half = H if value % 16 == 0 else 0
                self.changed(2, value, flags, result, szp(result) + half + flags % 2)

    def test_one_more_and_less_in_plain_numbers(self):
        self.check([code(0, 0, 1)], {"B": 0xFF, "F": 1}, {"B": 0, "PC": 1, "F": 0x40 + 0x10 + 4 + 1})
        self.check([code(0, 0, 1)], {"B": 0x7F, "F": 0}, {"B": 0x80, "PC": 1, "F": 0x80 + 0x10})
        self.check([code(0, 0, 2)], {"B": 0x00, "F": 0}, {"B": 0xFF, "PC": 1, "F": 0x80 + 0x10 + 4})
        self.check([code(0, 0, 2)], {"B": 0x01, "F": 1}, {"B": 0x00, "PC": 1, "F": 0x40 + 4 + 1})

    def test_rotated_left_through_carry(self):
        for flags in (0, C, ALL_FIVE, ALL_FIVE - C):
            for value in BYTES:
                result = (value * 2) % 256 + flags % 2
                self.changed(3, value, flags, result, flags - flags % 2 + value // 128)

    def test_rotated_right_through_carry(self):
        for flags in (0, C, ALL_FIVE, ALL_FIVE - C):
            for value in BYTES:
                result = value // 2 + 128 * (flags % 2)
                self.changed(4, value, flags, result, flags - flags % 2 + value % 2)

    def test_shifted_left(self):
        for flags in (0, C, ALL_FIVE, ALL_FIVE - C):
            for value in BYTES:
                self.changed(5, value, flags, (value * 2) % 256, flags - flags % 2 + value // 128)

    def test_shifted_right(self):
        for flags in (0, C, ALL_FIVE, ALL_FIVE - C):
            for value in BYTES:
                self.changed(6, value, flags, value // 2, flags - flags % 2 + value % 2)


class WithoutARegister(MachineCase):
    def test_nothing(self):
        for flags in (0, ALL_FIVE):
            self.check([code(0, 0, 7)], {"F": flags}, {"PC": 1})

    def test_adjusted_in_plain_numbers(self):
        for a, flags, result, flags_after in (
                (0x00, 0, 0x00, 0x44),
                (0x09, 0, 0x09, 0x04),
                (0x0A, 0, 0x10, 0x10),
                (0x0F, 0, 0x15, 0x10),
                (0x09, 0x10, 0x0F, 0x04),
                (0x1A, 0x10, 0x20, 0x10),
                (0x12, 0x10, 0x18, 0x04),
                (0x1F, 0x10, 0x25, 0x10),
                (0x99, 0, 0x99, 0x84),
                (0x9A, 0, 0x00, 0x40 + 0x10 + 0x04 + 0x01),
                (0xA0, 0, 0x00, 0x40 + 0x04 + 0x01),
                (0x00, 0x01, 0x60, 0x04 + 0x01),
                (0x9A, 0xD5, 0x00, 0x55),
                (0x94, 0x10, 0x9A, 0x84),
                (0xFF, 0, 0x65, 0x10 + 0x04 + 0x01),
                (0xFA, 0x11, 0x60, 0x10 + 0x04 + 0x01),
                (0x03, 0x11, 0x69, 0x04 + 0x01),
                (0x90, 0x10, 0x96, 0x84)):
            self.check([code(0, 1, 7)], {"A": a, "F": flags}, {"A": result, "F": flags_after, "PC": 1})

    def test_every_bit_of_a_is_turned(self):
        for flags in (0, ALL_FIVE):
            for value in BYTES:
                self.check([code(0, 2, 7)], {"A": value, "F": flags}, {"A": 255 - value, "PC": 1})

    def test_carry_becomes_1(self):
        self.check([code(0, 3, 7)], {"F": 0}, {"F": 1, "PC": 1})
        self.check([code(0, 3, 7)], {"F": 1}, {"F": 1, "PC": 1})
        self.check([code(0, 3, 7)], {"F": ALL_FIVE - 1}, {"F": ALL_FIVE, "PC": 1})

    def test_pc_becomes_a_word(self):
        self.check([code(0, 4, 7), 0x34, 0x12], {"F": ALL_FIVE}, {"PC": 0x1234})

    def test_pc_is_pushed_and_becomes_the_word(self):
        memory = [0] * 0x123 + [code(0, 5, 7), 0x34, 0x12]
        self.check(memory, {"PC": 0x123, "F": ALL_FIVE}, {"PC": 0x1234, "SP": 0x7FFE},
                   [(0x7FFE, 0x26), (0x7FFF, 0x01)])

    def test_the_word_is_taken_before_the_push_stores_over_it(self):
        self.check([code(0, 5, 7), 0x34, 0x12], {"SP": 3}, {"PC": 0x1234, "SP": 1}, [(1, 3), (2, 0)])

    def test_pc_is_popped(self):
        self.check([code(0, 6, 7), 0, 0x34, 0x12], {"SP": 2, "F": ALL_FIVE}, {"PC": 0x1234, "SP": 4})

    def test_pc_becomes_hl(self):
        self.check([code(0, 7, 7)], {"H": 0x12, "L": 0x34, "F": ALL_FIVE}, {"PC": 0x1234})

    def test_a_call_and_back(self):
        memory = [code(0, 5, 7), *word(8), 0, 0, 0, 0, 0, code(0, 6, 7)]
        self.check(memory, {}, {"PC": 3}, [(0x7FFE, 3)], steps=2)


if __name__ == "__main__":
    unittest.main()
