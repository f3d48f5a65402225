"""Point 1: reset."""

import unittest

from tests.helpers import DISTINCT, HALT, WHICH, ask, get_all, put_all, ran, reset, run

ALL_ZERO = [[0]] * len(WHICH)


class Reset(unittest.TestCase):
    def test_answers_0_and_all_is_0(self):
        apart = ask(reset(), *get_all())
        self.assertEqual(apart, [[0]] + ALL_ZERO)

    def test_again_after_values_were_set(self):
        start = {**DISTINCT, "PC": 77, "F": 213}
        apart = ask(reset(), *put_all(start), *get_all(), reset(), *get_all())
        size = len(WHICH)
        self.assertEqual(apart[1 + size:1 + 2 * size], [[value] for value in start.values()])
        self.assertEqual(apart[1 + 2 * size:], [[0]] + ALL_ZERO)

    def test_again_after_a_halt(self):
        apart = ask(reset(), run(5, [HALT]), reset(), *get_all(), run(1, [0o077]))
        self.assertEqual(apart[1], ran(1, 1))
        self.assertEqual(apart[2:-1], [[0]] + ALL_ZERO)
        self.assertEqual(apart[-1], ran(1, 0))

    def test_several_times_in_a_row(self):
        self.assertEqual(ask(reset(), reset(), reset()), [[0], [0], [0]])


if __name__ == "__main__":
    unittest.main()
