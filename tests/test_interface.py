"""The interface: how calls and answers stand in their lists, and what is left alone."""

import contextlib
import io
import unittest

import fiveflags.machine
from fiveflags.machine import answers
from tests.helpers import HALT, READ, WRITE, ask, code, get, put, ran, reset, run

JUMP = code(0, 4, 7)
A_TO = code(3, 5, 4)


def kinds_within(numbers):
    return {number.__class__ for number in numbers}


class TheLists(unittest.TestCase):
    def test_each_call_told_number_by_number(self):
        calls = [0, 1, 7, 65, 2, 7, 2, 6, 1, 6, 1, 3, 9, 5, 5, WRITE, A_TO, 9, 0, HALT, 1, 33, 3, -1, 0, 0, 0]
        due = [1, 0, 1, 0, 1, 65, 1, -2, 1, -2, 9, 3, 1, 0, 1, 1, 65, 2, 9, 65, 1, -2]
        self.assertEqual(answers(calls), due)

    def test_a_reset_alone(self):
        self.assertEqual(answers([0]), [1, 0])

    def test_rows_are_passed_even_where_the_run_is_refused(self):
        apart = ask(reset(), run(-1, [0, 0, 0], [1, 1]), put("B", 4), run(0, [1, 2], [3, 0], -7), get("B"))
        self.assertEqual(apart, [[0], [-2], [0], [-2], [4]])

    def test_300_calls(self):
        rounds = [one for number in range(149) for one in (run(1, [code(0, 0, 1)]), put("PC", 0))]
        apart = ask(reset(), *rounds, get("B"))
        self.assertEqual(len(apart), 300)
        self.assertEqual(apart[-1], [149])
        self.assertEqual(answers([0] * 300), [1, 0] * 300)

    def test_31000_numbers(self):
        memory = [READ, JUMP, 0, 0] + [0] * 976
        offered = [7] * (31000 - 6 - len(memory))
        calls = reset() + run(1000000, memory, offered)
        self.assertEqual(len(calls), 31000)
        self.assertEqual(answers(calls)[1 + 1:], [6] + ran(2 * len(offered), 2, read=len(offered)))

    def test_whole_numbers_are_int_alone(self):
        memory = [READ, WRITE, A_TO, 200, 0, code(2, 2, 7), code(3, 3, 3), HALT]
        calls = reset() + run(99, memory, [9]) + [number for which in range(-1, 12) for number in get(which)]
        calls += put("F", 255) + get("F") + run(1, []) + put(6, 0)
        told = answers(calls)
        self.assertEqual(kinds_within(told), {int})
        self.assertEqual(told.__class__, list)


class WhatIsLeftAlone(unittest.TestCase):
    def test_what_is_handed_in_is_not_changed(self):
        class Guarded(list):
            def refuse(self, *given, **named):
                raise AssertionError("what is handed in was changed")

            __setitem__ = __delitem__ = __iadd__ = __imul__ = refuse
            append = extend = insert = pop = remove = clear = sort = reverse = refuse

        memory = [READ, A_TO, 0, 0, A_TO, 1, 0, WRITE, HALT]
        plain = reset() + put("SP", 4) + run(50, memory, [5, 6]) + get("A")
        calls = Guarded(plain)
        self.assertEqual(answers(calls), answers(plain))
        self.assertEqual(list(calls), plain)

    def test_nothing_is_kept_from_one_time_to_the_next(self):
        first = reset() + put("A", 9) + put("F", 213) + run(9, [A_TO, 0, 4, WRITE, HALT])
        plain = [2, 7, 2, 10, 2, 9] + run(3, [code(0, 0, 7)] * 3)
        alone = answers(reset() + plain)
        told = answers(first)
        self.assertEqual(answers(reset() + plain), alone)
        self.assertEqual(answers(first), told)

    def test_each_answer_is_a_list_of_its_own(self):
        calls = reset() + run(9, [WRITE, HALT])
        told = answers(calls)
        told.append(99)
        told[0] = 77
        self.assertEqual(answers(calls), [1, 0, 7] + ran(2, 1, written=[0]))

    def test_nothing_is_printed(self):
        out, err = io.StringIO(), io.StringIO()
        with contextlib.redirect_stdout(out), contextlib.redirect_stderr(err):
            answers(reset() + run(9, [READ, WRITE, HALT], [1]) + get(6))
        self.assertEqual(out.getvalue() + err.getvalue(), "")

    def test_the_name_and_its_one_argument(self):
        called = fiveflags.machine.answers.__code__
        self.assertEqual(called.co_varnames[:called.co_argcount], ("calls",))


if __name__ == "__main__":
    unittest.main()
