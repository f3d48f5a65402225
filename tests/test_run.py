"""Point 3: how a run goes, how it ends and what it answers."""

import unittest

from tests.helpers import (
    DISTINCT, HALT, READ, WHICH, WRITE, MachineCase, ask, code, get, get_all, put, put_all, ran, reset, run, word,
)

NOTHING = code(0, 0, 7)
JUMP = code(0, 4, 7)
A_BYTE = code(0, 7, 0)
A_TO = code(3, 5, 4)
MOST = 1000000


def ended(steps, memory, offered=(), room=MOST):
    return ask(reset(), run(steps, memory, offered, room))[1]


class Refusals(unittest.TestCase):
    def test_steps_and_room_out_of_range(self):
        for steps, room in ((-1, 0), (MOST + 1, 0), (0, -1), (0, MOST + 1), (-1, -1), (MOST + 1, MOST + 1),
                            (-2147483648, 5), (2147483647, 5), (5, -2147483648), (5, 2147483647)):
            self.assertEqual(ended(steps, [HALT], [1], room), [-2], (steps, room))

    def test_the_ends_of_the_range_are_taken(self):
        self.assertEqual(ended(0, [NOTHING], room=0), ran(0, 0))
        self.assertEqual(ended(0, [NOTHING], room=MOST), ran(0, 0))
        self.assertEqual(ended(MOST, [HALT], room=0), ran(1, 1))
        self.assertEqual(ended(MOST, [HALT], room=MOST), ran(1, 1))

    def test_all_of_1000000_steps(self):
        self.assertEqual(ended(MOST, [JUMP, 0, 0]), ran(MOST, 0))

    def test_the_machine_is_as_it_was(self):
        for steps, room in ((-1, 9), (MOST + 1, 9), (9, -1), (9, MOST + 1)):
            memory = [code(0, 0, 1), READ, WRITE, HALT]
            apart = ask(reset(), *put_all(DISTINCT), run(steps, memory, [1], room), *get_all())
            self.assertEqual(apart[11], [-2])
            self.assertEqual(apart[12:], [[value] for value in DISTINCT.values()])

    def test_a_refusal_ends_no_halt(self):
        apart = ask(reset(), run(1, [HALT]), run(-1, [0]), run(3, [NOTHING] * 9))
        self.assertEqual(apart[1:], [ran(1, 1), [-2], ran(0, 1)])


class WhyItEnded(unittest.TestCase):
    def test_steps_were_over(self):
        self.assertEqual(ended(3, [NOTHING] * 9), ran(3, 0))
        self.assertEqual(ended(0, [NOTHING] * 9), ran(0, 0))

    def test_halted(self):
        self.assertEqual(ended(9, [NOTHING, NOTHING, HALT]), ran(3, 1))

    def test_halted_also_in_the_last_step(self):
        self.assertEqual(ended(3, [NOTHING, NOTHING, HALT]), ran(3, 1))
        self.assertEqual(ended(2, [NOTHING, NOTHING, HALT]), ran(2, 0))

    def test_halted_before_with_any_steps(self):
        for steps in (0, 1, MOST):
            apart = ask(reset(), run(9, [HALT]), run(steps, [NOTHING] * 9), get("PC"))
            self.assertEqual(apart[1:], [ran(1, 1), ran(0, 1), [1]])

    def test_halted_comes_before_the_port(self):
        for blocked in (READ, WRITE):
            apart = ask(reset(), run(9, [HALT, blocked], room=0), run(9, [HALT, blocked], room=0))
            self.assertEqual(apart[1:], [ran(1, 1), ran(0, 1)])

    def test_nothing_more_to_read(self):
        self.assertEqual(ended(9, [READ]), ran(0, 2))
        self.assertEqual(ended(9, [READ, READ, READ], [5, 6]), ran(2, 2, read=2))
        self.assertEqual(ended(9, [NOTHING, READ]), ran(1, 2))

    def test_no_more_room(self):
        self.assertEqual(ended(9, [WRITE], room=0), ran(0, 3))
        self.assertEqual(ended(9, [WRITE, WRITE, WRITE], room=2), ran(2, 3, written=[0, 0]))

    def test_steps_over_comes_before_the_port(self):
        self.assertEqual(ended(0, [READ]), ran(0, 0))
        self.assertEqual(ended(0, [WRITE], room=0), ran(0, 0))
        self.assertEqual(ended(2, [READ, READ, READ], [5, 6]), ran(2, 0, read=2))
        self.assertEqual(ended(2, [WRITE, WRITE, WRITE], room=2), ran(2, 0, written=[0, 0]))

    def test_room_matters_to_writing_alone_and_input_to_reading_alone(self):
        self.assertEqual(ended(2, [READ, READ], [5, 6], room=0), ran(2, 0, read=2))
        self.assertEqual(ended(2, [WRITE, WRITE], [], room=2), ran(2, 0, written=[0, 0]))

    def test_the_instruction_is_not_begun(self):
        for memory, why in (([NOTHING, READ], 2), ([NOTHING, WRITE], 3)):
            start = {**DISTINCT, "F": 213}
            apart = ask(reset(), *put_all(start), run(9, memory, [], 0), *get_all())
            self.assertEqual(apart[11], ran(1, why))
            values = [one[0] for one in apart[12:]]
            self.assertEqual(dict(zip(WHICH, values)), {**start, "PC": 1})

    def test_a_stop_at_the_port_goes_on_in_the_next_run(self):
        memory = [READ, WRITE, HALT]
        apart = ask(reset(), run(9, memory), run(9, memory, [8], 0), run(9, memory, [], 1))
        self.assertEqual(apart[1:], [ran(0, 2), ran(1, 3, read=1), ran(2, 1, written=[8])])


class ThePort(unittest.TestCase):
    def test_bytes_are_read_in_order_and_written_in_order(self):
        memory = [READ, WRITE, code(0, 2, 7), WRITE, JUMP, 0, 0]
        offered = [0, 1, 128, 255]
        written = [0, 255, 1, 254, 128, 127, 255, 0]
        self.assertEqual(ended(MOST, memory, offered), ran(20, 2, read=4, written=written))

    def test_both_begin_at_their_first_byte_in_each_call(self):
        memory = [READ, WRITE, JUMP, 0, 0]
        apart = ask(reset(), run(5, memory, [10, 11, 12], 9), run(4, memory, [20, 21, 22], 9),
                    run(0, memory, [1], 1))
        self.assertEqual(apart[1], ran(5, 0, read=2, written=[10, 11]))
        self.assertEqual(apart[2], ran(4, 0, read=1, written=[20]))
        self.assertEqual(apart[3], ran(0, 0))

    def test_the_second_call_reads_from_its_own_first_byte(self):
        memory = [READ, WRITE, HALT]
        apart = ask(reset(), run(9, memory, [10, 11]), put("PC", 0), run(9, memory, [20, 21]))
        self.assertEqual(apart[1], ran(3, 1, read=1, written=[10]))
        self.assertEqual(apart[3], ran(3, 1, read=1, written=[20]))

    def test_the_second_call_has_its_whole_room(self):
        memory = [WRITE, WRITE, WRITE]
        apart = ask(reset(), run(9, memory, room=2), put("PC", 0), run(9, memory, room=2))
        self.assertEqual(apart[1], ran(2, 3, written=[0, 0]))
        self.assertEqual(apart[3], ran(2, 3, written=[0, 0]))

    def test_as_many_bytes_as_may_be_offered(self):
        offered = [number % 251 for number in range(30000)]
        self.assertEqual(ended(MOST, [READ, WRITE, JUMP, 0, 0], offered),
                         ran(90000, 2, read=30000, written=offered))

    def test_many_bytes_written(self):
        told = ended(MOST, [WRITE, JUMP, 0, 0])
        self.assertEqual(told, ran(MOST, 0, written=[0] * 500000))

    def test_room_that_is_not_filled(self):
        self.assertEqual(ended(9, [WRITE, HALT], room=7), ran(2, 1, written=[0]))


class TheMemory(MachineCase):
    def test_what_is_not_told_is_0(self):
        told = ask(reset(), put("H", 0xFF), put("L", 0xFF), run(1, [code(1, 7, 6)]), get("A"))
        self.assertEqual(told[3:], [ran(1, 0), [0]])

    def test_no_memory_told_at_all(self):
        apart = ask(reset(), put("B", 9), run(7, []), get("B"), get("PC"))
        self.assertEqual(apart[2:], [ran(7, 0), [0], [14]])

    def test_all_1024_bytes_are_there(self):
        memory = [NOTHING] * 1023 + [HALT]
        self.assertEqual(ended(MOST, memory), ran(1024, 1))

    def test_changed_bytes_in_order(self):
        memory = [A_BYTE, 7, A_TO, *word(65535), A_TO, *word(300), A_TO, *word(0), A_TO, *word(40000), HALT]
        self.assertEqual(ended(MOST, memory), ran(6, 1, changes=[(0, 7), (300, 7), (40000, 7), (65535, 7)]))

    def test_a_byte_changed_and_changed_back_is_not_told(self):
        memory = [A_BYTE, 7, A_TO, *word(500), A_TO, *word(501), A_BYTE, 0, A_TO, *word(500), HALT]
        self.assertEqual(ended(MOST, memory), ran(6, 1, changes=[(501, 7)]))
        self.assertEqual(ended(3, memory), ran(3, 0, changes=[(500, 7), (501, 7)]))

    def test_a_byte_stored_as_it_was_is_not_told(self):
        memory = [A_BYTE, 9, A_TO, *word(6), HALT, 9]
        self.assertEqual(ended(MOST, memory), ran(3, 1))

    def test_a_byte_that_becomes_0_is_told(self):
        memory = [A_TO, *word(4), HALT, 9]
        self.assertEqual(ended(MOST, memory), ran(2, 1, changes=[(4, 0)]))

    def test_a_byte_changed_twice_is_told_once_as_it_is_now(self):
        memory = [A_BYTE, 7, A_TO, *word(500), A_BYTE, 8, A_TO, *word(500), HALT]
        self.assertEqual(ended(MOST, memory), ran(5, 1, changes=[(500, 8)]))

    def test_the_program_may_change_itself(self):
        memory = [A_BYTE, HALT, A_TO, *word(5), NOTHING, NOTHING]
        self.assertEqual(ended(MOST, memory), ran(3, 1, changes=[(5, HALT)]))

    def test_every_byte_of_the_memory_can_change(self):
        # At 0: the byte at HL becomes A, HL is one more, round again; HL goes from 16 up to 65535.
        memory = [code(1, 6, 7), code(3, 2, 6), JUMP, 0, 0]
        apart = ask(reset(), put("A", 5), put("L", 16), run(3 * (65536 - 16), memory), get("H"), get("L"))
        self.assertEqual(apart[3], ran(3 * (65536 - 16), 0, changes=[(place, 5) for place in range(16, 65536)]))
        self.assertEqual(apart[4:], [[0], [0]])

    def test_memory_is_told_anew_and_all_else_stays(self):
        start = {**DISTINCT, "F": 213}
        first = [A_TO, *word(700), NOTHING]
        second = [NOTHING, NOTHING, NOTHING, code(3, 4, 4), *word(700), HALT]
        apart = ask(reset(), *put_all(start), run(1, first), run(1, second), *get_all(), run(1, second),
                    get("PC"), run(5, second))
        self.assertEqual(apart[11], ran(1, 0, changes=[(700, 0x77)]))
        self.assertEqual(apart[12], ran(1, 0))
        values = [one[0] for one in apart[13:23]]
        self.assertEqual(dict(zip(WHICH, values)), {**start, "A": 0, "PC": 6})
        self.assertEqual(apart[23:], [ran(1, 1), [7], ran(0, 1)])


class GoingRound(MachineCase):
    def test_pc_goes_round_behind_the_first_byte(self):
        # What is not told is 0, which is: B becomes a byte.
        self.check([0xAB], {"PC": 65535}, {"PC": 1, "B": 0xAB})

    def test_pc_goes_round_behind_the_byte(self):
        self.check([0xAB], {"PC": 65534}, {"PC": 0, "B": 0})

    def test_pc_goes_round_without_a_byte(self):
        memory = [0, 0, A_BYTE, NOTHING, A_TO, *word(65535), JUMP, *word(65535)]
        self.check(memory, {"PC": 2}, {"PC": 0, "A": NOTHING}, [(65535, NOTHING)], steps=4)

    def test_a_word_goes_round(self):
        memory = [0x34, 0x12, A_BYTE, JUMP, A_TO, *word(65535), JUMP, *word(65535)]
        self.check(memory, {"PC": 2}, {"PC": 0x1234, "A": JUMP}, [(65535, JUMP)], steps=4)

    def test_a_word_goes_round_in_its_middle(self):
        memory = [0x12, 0, A_BYTE, JUMP, A_TO, *word(65534), JUMP, *word(65534)]
        self.check(memory, {"PC": 2}, {"PC": 0x1200, "A": JUMP}, [(65534, JUMP)], steps=4)

    def test_the_pc_that_is_pushed_goes_round(self):
        call = code(0, 5, 7)
        memory = [0, 0, A_BYTE, call, A_TO, *word(65533), JUMP, *word(65533)]
        self.check(memory, {"PC": 2, "A": 0}, {"PC": 0, "A": call, "SP": 0x7FFE}, [(65533, call)], steps=4)

    def test_a_place_at_the_end_of_the_memory(self):
        self.check([code(0, 6, 1)], {"H": 255, "L": 255}, {"PC": 1}, [(65535, 1)])


class ALongerProgram(unittest.TestCase):
    def test_a_product_by_adding(self):
        # B times C, by adding C to A while B counts down.
        memory = [READ, code(1, 0, 7), READ, code(1, 1, 7), A_BYTE, 0, code(2, 0, 1), code(0, 0, 2),
                  code(3, 0, 0), *word(6), WRITE, HALT]
        self.assertEqual(ended(MOST, memory, [7, 12]), ran(5 + 3 * 7 + 2, 1, read=2, written=[84]))

    def test_decimal_sum_by_adjusting(self):
        memory = [READ, code(1, 0, 7), READ, code(2, 0, 0), code(0, 1, 7), WRITE, HALT]
        for first, second in ((0x15, 0x27), (0x99, 0x01), (0x50, 0x50), (0x08, 0x08), (0x99, 0x99)):
            total = int(f"{first:x}") + int(f"{second:x}")
            written = int(str(total % 100), 16)
            self.assertEqual(ended(MOST, memory, [first, second]), ran(7, 1, read=2, written=[written]))


if __name__ == "__main__":
    unittest.main()
