"""Point 3: programs of any bytes, held against a machine written apart."""

import random
import unittest

from tests.helpers import HALT, READ, WHICH, WRITE, ask, get_all, put, reset, run
from tests.reference import Reference


def any_memory(source):
    # Halts would end most programs of any bytes at once.
    pool = [number for number in range(256) if number != HALT] + [READ, WRITE] * 4
    return [source.choice(pool) for place in range(source.choice((0, 1, 20, 300, 1024)))]


class AgainstTheReference(unittest.TestCase):
    def one_line(self, source):
        reference = Reference()
        calls, due = [reset()], [[0]]
        start = [source.choice((0, 255, 65535, source.randrange(65536))) for name in WHICH]
        for name, value in zip(WHICH, start):
            if source.random() < 0.7:
                calls.append(put(name, value))
                due.append([0])
                self.put(reference, name, value)
        for number in range(4):
            memory = any_memory(source)
            offered = [source.randrange(256) for place in range(source.choice((0, 1, 5, 40)))]
            steps = source.choice((0, 1, 2, 30, 400))
            room = source.choice((0, 1, 3, 1000))
            calls.append(run(steps, memory, offered, room))
            due.append(reference.run(steps, room, memory, offered))
            calls.extend(get_all())
            due.extend([[value] for value in reference.state()])
        self.assertEqual(ask(*calls), due)

    def put(self, reference, name, value):
        if name == "SP":
            reference.sp = value
        elif name == "PC":
            reference.pc = value
        elif name == "F":
            reference.from_flag_byte(value % 256)
        else:
            reference.r[name] = value % 256

    def test_programs_of_any_bytes(self):
        for seed in range(300):
            with self.subTest(seed=seed):
                self.one_line(random.Random(seed))

    def test_each_first_byte(self):
        source = random.Random(1)
        for first in range(256):
            for number in range(4):
                with self.subTest(first=first, number=number):
                    self.one_first_byte(source, first)

    def one_first_byte(self, source, first):
        reference = Reference()
        calls, due = [reset()], [[0]]
        for name in WHICH:
            value = source.choice((0, 1, 255, 1023, 65535, source.randrange(65536)))
            if name == "PC":
                value = 0
            calls.append(put(name, value))
            due.append([0])
            self.put(reference, name, value)
        memory = [first] + [source.randrange(256) for place in range(1023)]
        calls.append(run(1, memory, [0xA5], 1))
        due.append(reference.run(1, 1, memory, [0xA5]))
        calls.extend(get_all())
        due.extend([[value] for value in reference.state()])
        self.assertEqual(ask(*calls), due)


if __name__ == "__main__":
    unittest.main()
