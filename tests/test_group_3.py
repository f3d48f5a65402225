"""Point 3: the instructions with g = 3."""

import unittest

from tests.helpers import ALL_FIVE, C, DISTINCT, P, READ, S, WRITE, Z, MachineCase, code, ran
from tests.test_groups_1_and_2 import operation

ASKED = (Z, Z, C, C, P, P, S, S)
PAIRS = ("BC", "DE", "HL")


def holds(number, flags):
    is_set = flags & ASKED[number] != 0
    return is_set if number % 2 == 1 else not is_set


def pair_of(name, value):
    if name == "SP":
        return {"SP": value}
    return {name[0]: value // 256, name[1]: value % 256}


def value_of(name, state):
    return state["SP"] if name == "SP" else state[name[0]] * 256 + state[name[1]]


def every_flags():
    return [value for value in range(256) if value & ALL_FIVE == value]


class WhereAConditionHolds(MachineCase):
    def test_jump(self):
        for d in range(8):
            for flags in every_flags():
                self.check([code(3, d, 0), 0x34, 0x12], {"F": flags}, {"PC": 0x1234 if holds(d, flags) else 3})

    def test_call(self):
        for d in range(8):
            for flags in every_flags():
                memory = [0] * 0x102 + [code(3, d, 1), 0x34, 0x12]
                if holds(d, flags):
                    self.check(memory, {"F": flags, "PC": 0x102}, {"PC": 0x1234, "SP": 0x7FFE},
                               [(0x7FFE, 5), (0x7FFF, 1)])
                else:
                    self.check(memory, {"F": flags, "PC": 0x102}, {"PC": 0x105})

    def test_call_takes_its_word_before_the_push(self):
        self.check([code(3, 0, 1), 0x34, 0x12], {"SP": 3}, {"PC": 0x1234, "SP": 1}, [(1, 3), (2, 0)])

    def test_pop(self):
        for d in range(8):
            for flags in every_flags():
                after = {"PC": 0x1234, "SP": 4} if holds(d, flags) else {"PC": 1}
                self.check([code(3, d, 2), 0, 0x34, 0x12], {"F": flags, "SP": 2}, after)

    def test_conditions_by_number(self):
        for d, flags in ((0, 0), (1, 64), (2, 0), (3, 1), (4, 0), (5, 4), (6, 0), (7, 128)):
            self.check([code(3, d, 0), 9, 0], {"F": flags}, {"PC": 9})
        for d, flags in ((0, 64), (1, 149), (2, 1), (3, 212), (4, 4), (5, 209), (6, 128), (7, 85)):
            self.check([code(3, d, 0), 9, 0], {"F": flags}, {"PC": 3})


class PushedAndPopped(MachineCase):
    def test_pairs_are_pushed(self):
        for d, high, low in ((0, 0x11, 0x22), (1, 0x33, 0x44), (2, 0x02, 0x66)):
            for flags in (0, ALL_FIVE):
                self.check([code(3, d, 3)], {"F": flags}, {"PC": 1, "SP": 0x7FFE},
                           [(0x7FFE, low), (0x7FFF, high)])

    def test_a_with_the_flags_is_pushed_with_2_besides(self):
        for flags in every_flags():
            self.check([code(3, 3, 3)], {"F": flags}, {"PC": 1, "SP": 0x7FFE},
                       [(0x7FFE, flags + 2), (0x7FFF, 0x77)])

    def test_pairs_are_popped(self):
        for d in range(3):
            for flags in (0, ALL_FIVE):
                self.check([code(3, 4 + d, 3), 0, 0xCD, 0xAB], {"SP": 2, "F": flags},
                           {"PC": 1, "SP": 4, **pair_of(PAIRS[d], 0xABCD)})

    def test_a_with_the_flags_is_popped_and_other_bits_passed_over(self):
        for low in range(256):
            self.check([code(3, 7, 3), 0, low, 0xAB], {"SP": 2, "F": ALL_FIVE - low % 2},
                       {"PC": 1, "SP": 4, "A": 0xAB, "F": low & ALL_FIVE})

    def test_pushing_goes_round(self):
        self.check([code(3, 0, 3)], {"SP": 1}, {"PC": 1, "SP": 65535}, [(0, 0x11), (65535, 0x22)])
        self.check([code(3, 0, 3)], {"SP": 0}, {"PC": 1, "SP": 65534}, [(65534, 0x22), (65535, 0x11)])

    def test_popping_goes_round(self):
        self.check([code(3, 4, 3)], {"SP": 65535}, {"PC": 1, "SP": 1, "B": code(3, 4, 3), "C": 0})
        self.check([code(3, 4, 3)], {"SP": 65534}, {"PC": 1, "SP": 0, "B": 0, "C": 0})


class Transfers(MachineCase):
    def test_a_is_read_from_the_port(self):
        for flags in (0, ALL_FIVE):
            self.check([READ], {"F": flags}, {"PC": 1, "A": 0x5A}, offered=[0x5A, 0x5B],
                       told=ran(1, 0, read=1))

    def test_a_is_written_to_the_port(self):
        for flags in (0, ALL_FIVE):
            self.check([WRITE], {"F": flags}, {"PC": 1}, told=ran(1, 0, written=[0x77]))

    def test_sp_becomes_hl(self):
        for flags in (0, ALL_FIVE):
            self.check([code(3, 2, 4)], {"F": flags}, {"PC": 1, "SP": 0x0266})

    def test_hl_becomes_sp(self):
        for flags in (0, ALL_FIVE):
            self.check([code(3, 3, 4)], {"F": flags, "SP": 0xABCD}, {"PC": 1, "H": 0xAB, "L": 0xCD})

    def test_a_becomes_the_byte_at_a_word(self):
        memory = [code(3, 4, 4), 0x02, 0x01] + [0] * 0xFF + [0xE1, 0xE2]
        for flags in (0, ALL_FIVE):
            self.check(memory, {"F": flags}, {"PC": 3, "A": 0xE1})

    def test_the_byte_at_a_word_becomes_a(self):
        for flags in (0, ALL_FIVE):
            self.check([code(3, 5, 4), 0x34, 0x12], {"F": flags}, {"PC": 3}, [(0x1234, 0x77)])

    def test_hl_becomes_the_word_at_a_word(self):
        memory = [code(3, 6, 4), 0x02, 0x01] + [0] * 0xFF + [0xE1, 0xE2]
        for flags in (0, ALL_FIVE):
            self.check(memory, {"F": flags}, {"PC": 3, "H": 0xE2, "L": 0xE1})

    def test_the_word_at_a_word_becomes_hl(self):
        for flags in (0, ALL_FIVE):
            self.check([code(3, 7, 4), 0x34, 0x12], {"F": flags}, {"PC": 3}, [(0x1234, 0x66), (0x1235, 0x02)])

    def test_words_in_memory_go_round(self):
        self.check([code(3, 6, 4), 255, 255], {}, {"PC": 3, "H": code(3, 6, 4), "L": 0})
        self.check([code(3, 7, 4), 255, 255], {}, {"PC": 3}, [(0, 0x02), (65535, 0x66)])


class OperationsOnAByte(MachineCase):
    def test_each_operation(self):
        for d in range(8):
            for flags in (0, ALL_FIVE):
                for a in (0x00, 0x0F, 0x80, 0xC3, 0xFF):
                    for b in (0x00, 0x01, 0x3D, 0x80, 0xFF):
                        result, flags_after = operation(d, a, b, flags % 2)
                        self.check([code(3, d, 5), b], {"A": a, "F": flags},
                                   {"A": result, "F": flags_after, "PC": 2})


class Pairs(MachineCase):
    def test_one_more_and_one_less(self):
        for d, name in enumerate(PAIRS + ("SP",)):
            for flags in (0, ALL_FIVE):
                for value in (0, 1, 0xFF, 0x100, 0x1234, 0x7FFF, 0x8000, 0xFF00, 0xFFFF):
                    before = {"F": flags, **pair_of(name, value)}
                    self.check([code(3, d, 6)], before, {"PC": 1, **pair_of(name, (value + 1) % 65536)})
                    self.check([code(3, d + 4, 6)], before, {"PC": 1, **pair_of(name, (value - 1) % 65536)})

    def test_pair_becomes_a_word(self):
        for d, name in enumerate(PAIRS + ("SP",)):
            for flags in (0, ALL_FIVE):
                self.check([code(3, d, 7), 0xCD, 0xAB], {"F": flags}, {"PC": 3, **pair_of(name, 0xABCD)})

    def test_pair_is_added_to_hl(self):
        for d, name in enumerate(PAIRS + ("SP",)):
            for flags in (0, C, ALL_FIVE, ALL_FIVE - C):
                for hl in (0, 1, 0x0266, 0x7FFF, 0x8000, 0xFFFF):
                    for other in (0, 1, 0x7FFF, 0x8000, 0xFF9A, 0xFFFF):
                        before = {"F": flags, **pair_of("HL", hl)}
                        if name != "HL":
                            before.update(pair_of(name, other))
                        total = hl + value_of(name, {**DISTINCT, **before})
                        after = {"PC": 1, "F": flags - flags % 2 + total // 65536,
                                 **pair_of("HL", total % 65536)}
                        self.check([code(3, d + 4, 7)], before, after)


if __name__ == "__main__":
    unittest.main()
