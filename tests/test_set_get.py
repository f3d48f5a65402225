"""Point 2: set and get."""

import unittest

from tests.helpers import ALL_FIVE, DISTINCT, HALT, WHICH, ask, get, get_all, put, put_all, ran, reset, run

BYTES = ("B", "C", "D", "E", "H", "L", "A")
WORDS = ("SP", "PC")
WRONG = (6, -1, -2, 11, 12, 16, 256, 65536, 2147483647, -2147483648)
LOWEST = -2147483648
HIGHEST = 2147483647


def set_and_got(which, value):
    return ask(reset(), put(which, value), get(which))[1:]


class SetAndGet(unittest.TestCase):
    def test_numbers_are_as_told(self):
        self.assertEqual([WHICH[name] for name in BYTES + WORDS + ("F",)], [0, 1, 2, 3, 4, 5, 7, 8, 9, 10])

    def test_each_one_by_itself(self):
        apart = ask(reset(), *put_all(DISTINCT), *get_all())
        self.assertEqual(apart[:11], [[0]] * 11)
        self.assertEqual(apart[11:], [[value] for value in DISTINCT.values()])

    def test_only_the_one_that_is_set_changes(self):
        for name in WHICH:
            apart = ask(reset(), put(name, 0xD5), *get_all())
            self.assertEqual(apart[2:], [[0xD5 if other == name else 0] for other in WHICH], name)

    def test_bytes_by_their_lowest_bits(self):
        for name in BYTES:
            for value in (0, 1, 127, 128, 255, 256, 257, 65535, 65536, 70000, -1, -2, -128, -255, -256, -257,
                          LOWEST, LOWEST + 1, HIGHEST):
                self.assertEqual(set_and_got(name, value), [[0], [value % 256]], (name, value))

    def test_words_by_their_lowest_bits(self):
        for name in WORDS:
            for value in (0, 1, 255, 256, 65535, 65536, 65537, 70000, -1, -2, -65535, -65536, -65537,
                          LOWEST, LOWEST + 1, HIGHEST):
                self.assertEqual(set_and_got(name, value), [[0], [value % 65536]], (name, value))

    def test_flags_by_their_byte(self):
        for value in range(256):
            self.assertEqual(set_and_got("F", value), [[0], [value & ALL_FIVE]], value)

    def test_flags_below_0_and_above_their_byte(self):
        for value in (-1, -2, -44, -256, 256, 257, 511, 65535, LOWEST, LOWEST + 5, HIGHEST):
            self.assertEqual(set_and_got("F", value), [[0], [(value % 256) & 213]], value)

    def test_set_twice_keeps_the_last(self):
        self.assertEqual(ask(reset(), put("E", 5), put("E", 9), get("E"))[3], [9])

    def test_wrong_ones_are_refused(self):
        for which in WRONG:
            self.assertEqual(ask(reset(), put(which, 3), get(which))[1:], [[-2], [-2]], which)

    def test_a_refusal_leaves_the_machine_as_it_was(self):
        for which in WRONG:
            apart = ask(reset(), *put_all(DISTINCT), put(which, 0xFF), get(which), *get_all())
            self.assertEqual(apart[11:13], [[-2], [-2]])
            self.assertEqual(apart[13:], [[value] for value in DISTINCT.values()], which)

    def test_each_set_ends_a_halt(self):
        for name in WHICH:
            apart = ask(reset(), run(1, [HALT]), run(1, [0o077] * 3), put(name, 0), run(1, [0o077] * 3))
            self.assertEqual(apart[1:], [ran(1, 1), ran(0, 1), [0], ran(1, 0)], name)

    def test_a_refused_set_ends_no_halt(self):
        for which in WRONG:
            apart = ask(reset(), run(1, [HALT]), put(which, 0), run(1, [0o077] * 3))
            self.assertEqual(apart[2:], [[-2], ran(0, 1)], which)

    def test_get_ends_no_halt(self):
        apart = ask(reset(), run(1, [HALT]), *get_all(), get(6), run(1, [0o077] * 3))
        self.assertEqual(apart[-1], ran(0, 1))


if __name__ == "__main__":
    unittest.main()
