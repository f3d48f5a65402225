"""The machine once more, written apart from the program, to hold it against.

The memory is a dict, the flags stand by their letters, and nothing is shared
with the package.
"""

NAMES = "BCDEHL?A"


class Reference:
    def __init__(self):
        self.r = {name: 0 for name in "BCDEHLA"}
        self.sp = 0
        self.pc = 0
        self.f = {name: 0 for name in "SZHPC"}
        self.halted = False

    def hl(self):
        return self.r["H"] * 256 + self.r["L"]

    def byte(self):
        value = self.m.get(self.pc, 0)
        self.pc = (self.pc + 1) % 65536
        return value

    def word(self):
        low = self.byte()
        return low + 256 * self.byte()

    def load(self, n):
        return self.m.get(self.hl(), 0) if n == 6 else self.r[NAMES[n]]

    def save(self, n, value):
        if n == 6:
            self.m[self.hl()] = value
        else:
            self.r[NAMES[n]] = value

    def push(self, value):
        self.sp = (self.sp - 2) % 65536
        self.m[self.sp] = value % 256
        self.m[(self.sp + 1) % 65536] = value // 256

    def pop(self):
        value = self.m.get(self.sp, 0) + 256 * self.m.get((self.sp + 1) % 65536, 0)
        self.sp = (self.sp + 2) % 65536
        return value

    def pair(self, n):
        return self.sp if n == 3 else self.r["BDH"[n]] * 256 + self.r["CEL"[n]]

    def to_pair(self, n, value):
        value %= 65536
        if n == 3:
            self.sp = value
        else:
            self.r["BDH"[n]], self.r["CEL"[n]] = divmod(value, 256)

    def by_result(self, result):
        self.f["S"] = result // 128
        self.f["Z"] = int(result == 0)
        self.f["P"] = 1 - bin(result).count("1") % 2

    def flag_byte(self):
        return sum(self.f[name] * bit for name, bit in zip("SZHPC", (128, 64, 16, 4, 1)))

    def from_flag_byte(self, value):
        for name, bit in zip("SZHPC", (128, 64, 16, 4, 1)):
            self.f[name] = int(value & bit != 0)

    def holds(self, d):
        return self.f["ZCPS"[d // 2]] == d % 2

    def operation(self, d, b):
        a = self.r["A"]
        if d in (4, 5, 6):
            result = (a & b, a ^ b, a | b)[d - 4]
            self.f["H"] = self.f["C"] = 0
        else:
            c = self.f["C"] if d in (1, 3) else 0
            if d < 2:
                whole, low = a + b + c, a % 16 + b % 16 + c
                self.f["H"], self.f["C"] = int(low > 15), int(whole > 255)
            else:
                whole, low = a - b - c, a % 16 - b % 16 - c
                self.f["H"], self.f["C"] = int(low < 0), int(whole < 0)
            result = whole % 256
        self.by_result(result)
        if d != 7:
            self.r["A"] = result

    def on_one(self, d, o):
        v, c = self.load(d), self.f["C"]
        if o == 1:
            new = (v + 1) % 256
            self.f["H"] = int(v % 16 == 15)
            self.by_result(new)
        elif o == 2:
            new = (v - 1) % 256
            self.f["H"] = int(v % 16 == 0)
            self.by_result(new)
        elif o in (3, 5):
            new = v * 2 % 256 + (c if o == 3 else 0)
            self.f["C"] = v // 128
        else:
            new = v // 2 + (128 * c if o == 4 else 0)
            self.f["C"] = v % 2
        self.save(d, new)

    def adjust(self):
        old = new = self.r["A"]
        carry_was, half = self.f["C"], 0
        if old % 16 > 9 or self.f["H"]:
            new += 6
            half = int(old % 16 + 6 > 15)
        if old > 0x99 or carry_was:
            new += 0x60
            self.f["C"] = 1
        else:
            self.f["C"] = 0
        self.f["H"] = half
        self.r["A"] = new % 256
        self.by_result(self.r["A"])

    def group_0_7(self, d):
        if d == 1:
            self.adjust()
        elif d == 2:
            self.r["A"] = 255 - self.r["A"]
        elif d == 3:
            self.f["C"] = 1
        elif d == 4:
            self.pc = self.word()
        elif d == 5:
            target = self.word()
            self.push(self.pc)
            self.pc = target
        elif d == 6:
            self.pc = self.pop()
        elif d == 7:
            self.pc = self.hl()

    def group_3_4(self, d):
        if d == 0:
            self.r["A"] = self.offered[self.taken]
            self.taken += 1
        elif d == 1:
            self.written.append(self.r["A"])
        elif d == 2:
            self.sp = self.hl()
        elif d == 3:
            self.to_pair(2, self.sp)
        else:
            place = self.word()
            above = (place + 1) % 65536
            if d == 4:
                self.r["A"] = self.m.get(place, 0)
            elif d == 5:
                self.m[place] = self.r["A"]
            elif d == 6:
                self.r["L"], self.r["H"] = self.m.get(place, 0), self.m.get(above, 0)
            else:
                self.m[place], self.m[above] = self.r["L"], self.r["H"]

    def group_3(self, d, o):
        if o in (0, 1):
            target = self.word()
            if self.holds(d):
                if o == 1:
                    self.push(self.pc)
                self.pc = target
        elif o == 2:
            if self.holds(d):
                self.pc = self.pop()
        elif o == 3:
            if d == 3:
                self.push(self.r["A"] * 256 + self.flag_byte() + 2)
            elif d < 3:
                self.push(self.pair(d))
            elif d == 7:
                self.r["A"], low = divmod(self.pop(), 256)
                self.from_flag_byte(low)
            else:
                self.to_pair(d - 4, self.pop())
        elif o == 4:
            self.group_3_4(d)
        elif o == 5:
            self.operation(d, self.byte())
        elif o == 6:
            self.to_pair(d % 4, self.pair(d % 4) + (1 if d < 4 else -1))
        elif d < 4:
            self.to_pair(d, self.word())
        else:
            total = self.hl() + self.pair(d - 4)
            self.to_pair(2, total)
            self.f["C"] = total // 65536

    def step(self):
        first = self.byte()
        g, d, o = first // 64, first // 8 % 8, first % 8
        if g == 0 and o == 0:
            self.save(d, self.byte())
        elif g == 0 and o == 7:
            self.group_0_7(d)
        elif g == 0:
            self.on_one(d, o)
        elif g == 1 and d == 6 and o == 6:
            self.halted = True
        elif g == 1:
            self.save(d, self.load(o))
        elif g == 2:
            self.operation(d, self.load(o))
        else:
            self.group_3(d, o)

    def run(self, steps, room, memory, offered):
        if not 0 <= steps <= 1000000 or not 0 <= room <= 1000000:
            return [-2]
        self.m = dict(enumerate(memory))
        self.offered, self.taken, self.written = offered, 0, []
        count, why = 0, None
        while why is None:
            here = self.m.get(self.pc, 0)
            if self.halted:
                why = 1
            elif count == steps:
                why = 0
            elif here == 0b11000100 and self.taken == len(offered):
                why = 2
            elif here == 0b11001100 and len(self.written) == room:
                why = 3
            else:
                self.step()
                count += 1
        first = dict(enumerate(memory))
        changes = []
        for place in range(65536):
            if self.m.get(place, 0) != first.get(place, 0):
                changes += [place, self.m[place]]
        size = len(self.written)
        return [count, why, self.taken, size, size, *self.written, len(changes), *changes]

    def state(self):
        """In the order of which: 0 to 5, 7 to 10."""
        return [*[self.r[name] for name in "BCDEHLA"], self.sp, self.pc, self.flag_byte()]
