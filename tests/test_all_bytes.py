"""Point 3: each instruction that reckons with A, for every byte and every carry.

One program reads the flags, A and D from the port, carries out the
instruction that is tested, and writes A and the flags: thousands in one run.
"""

import unittest

from tests.helpers import C, H, READ, WRITE, ask, code, reset, run, szp, word
from tests.test_groups_1_and_2 import operation

ITEMS_A_RUN = 10000


def program(tested):
    body = [READ, code(1, 1, 7), READ, code(1, 0, 7), READ, code(1, 2, 7)]
    body += [code(3, 0, 3), code(3, 7, 3)]
    body += [tested, code(3, 3, 3), WRITE, code(3, 4, 3), code(1, 7, 1), WRITE]
    return body + [code(0, 4, 7), *word(0)]


def outcomes(tested, items):
    """Of each (flags, a, d) the byte A and the flags after the instruction."""
    found = []
    for start in range(0, len(items), ITEMS_A_RUN):
        offered = [number for item in items[start:start + ITEMS_A_RUN] for number in item]
        told = ask(reset(), run(1000000, program(tested), offered))[1]
        if told[1:3] != [2, len(offered)]:
            raise AssertionError("the program did not read all of its input")
        written = told[5:5 + told[4]]
        found.extend(zip(written[0::2], [flags - 2 for flags in written[1::2]]))
    return found


def adjusted(flags, a):
    six = a % 16 > 9 or flags & H
    sixty = a > 0x99 or flags & C
    result = (a + (6 if six else 0) + (0x60 if sixty else 0)) % 256
    half = H if six and a % 16 + 6 > 15 else 0
    return result, szp(result) + half + (C if sixty else 0)


def kept_but_carry(flags, carry):
    return flags - flags % 2 + carry


ON_A = {
    1: lambda f, a: ((a + 1) % 256, szp((a + 1) % 256) + (H if a % 16 == 15 else 0) + f % 2),
    2: lambda f, a: ((a - 1) % 256, szp((a - 1) % 256) + (H if a % 16 == 0 else 0) + f % 2),
    3: lambda f, a: (a * 2 % 256 + f % 2, kept_but_carry(f, a // 128)),
    4: lambda f, a: (a // 2 + 128 * (f % 2), kept_but_carry(f, a % 2)),
    5: lambda f, a: (a * 2 % 256, kept_but_carry(f, a // 128)),
    6: lambda f, a: (a // 2, kept_but_carry(f, a % 2)),
}


class EveryByte(unittest.TestCase):
    def compare(self, tested, items, expected):
        found = outcomes(tested, items)
        self.assertEqual(len(found), len(items))
        wrong = [(item, was, due) for item, was, due in zip(items, found, expected) if was != due]
        self.assertEqual(wrong[:5], [])

    def test_operations(self):
        for number in range(8):
            carries = (0, 1) if number in (1, 3) else (1,)
            items = [(carry, a, d) for carry in carries for a in range(256) for d in range(256)]
            self.compare(code(2, number, 2), items, [operation(number, a, d, carry) for carry, a, d in items])

    def test_one_more_and_less_and_shifts(self):
        items = [(flags, a, 0) for flags in (0, 1, 212, 213) for a in range(256)]
        for o in ON_A:
            self.compare(code(0, 7, o), items, [ON_A[o](flags, a) for flags, a, d in items])

    def test_adjusting(self):
        items = [(flags, a, 0) for flags in (0, 1, 16, 17, 196, 213) for a in range(256)]
        self.compare(code(0, 1, 7), items, [adjusted(flags, a) for flags, a, d in items])


if __name__ == "__main__":
    unittest.main()
