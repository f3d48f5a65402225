"""Builds lists of calls and takes their answers apart."""

import unittest

from fiveflags.machine import answers

WHICH = {"B": 0, "C": 1, "D": 2, "E": 3, "H": 4, "L": 5, "A": 7, "SP": 8, "PC": 9, "F": 10}
REGISTERS = ("B", "C", "D", "E", "H", "L", "(HL)", "A")

S, Z, H, P, C = 128, 64, 16, 4, 1
ALL_FIVE = S + Z + H + P + C

HALT = 0o166
READ = 0o304
WRITE = 0o314

# Where each value differs, a mix-up of two registers shows.
DISTINCT = {"B": 0x11, "C": 0x22, "D": 0x33, "E": 0x44, "H": 0x02, "L": 0x66, "A": 0x77,
            "SP": 0x8000, "PC": 0, "F": 0}


def code(g, d, o):
    return g * 64 + d * 8 + o


def word(value):
    return [value % 256, value // 256]


def reset():
    return [0]


def put(which, value):
    return [1, WHICH.get(which, which), value]


def get(which):
    return [2, WHICH.get(which, which)]


def run(steps, memory, offered=(), room=1000000):
    return [3, steps, room, len(memory), *memory, len(offered), *offered]


def put_all(state):
    return [put(name, value) for name, value in state.items()]


def get_all():
    return [get(name) for name in WHICH]


def ask(*calls):
    """One answer, a list, for each call."""
    flat = [number for one in calls for number in one]
    told = answers(flat)
    apart = []
    place = 0
    while place < len(told):
        size = told[place]
        apart.append(told[place + 1:place + 1 + size])
        place += 1 + size
    if place != len(told) or len(apart) != len(calls):
        raise AssertionError("answers don't stand as the interface says")
    return apart


def ran(steps, why, read=0, written=(), changes=()):
    """The answer of a run; changes are pairs of place and byte."""
    flat = [number for pair in changes for number in pair]
    return [steps, why, read, len(written), len(written), *written, len(flat), *flat]


def szp(result):
    """The bits S, Z and P as the document tells them of a result."""
    ones = bin(result).count("1")
    return (S if result >= 128 else 0) + (Z if result == 0 else 0) + (P if ones % 2 == 0 else 0)


class MachineCase(unittest.TestCase):
    def check(self, memory, before, after, changes=(), steps=1, offered=(), room=1000000, told=None):
        """After the steps all is as before, but for what is named in after."""
        start = {**DISTINCT, **before}
        apart = ask(reset(), *put_all(start), run(steps, memory, offered, room), *get_all())
        values = [one[0] for one in apart[2 + len(start):]]
        self.assertEqual(dict(zip(WHICH, values)), {**start, **after})
        if told is None:
            told = ran(steps, 0, changes=changes)
        self.assertEqual(apart[1 + len(start)], told)
