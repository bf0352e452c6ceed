"""Promises 3 and 4, as far as judge and range go: programs of chance that are judged good are run here, by a machine
of this file's own that's written from the document alone, and must keep to their memory and to what's told."""

import random
import unittest

from tests.helper import END, ask, ins, judge, load, tell, wide

WORD = 1 << 64
DATA = 1 << 32
STACK = (1 << 33) - 512
SIZES = {0: 4, 8: 2, 16: 1, 24: 8}


def signed(number, bits):
    number %= 1 << bits
    return number - (1 << bits) if number >= 1 << (bits - 1) else number


def to_zero(a, b):
    return abs(a) // abs(b) * (1 if (a < 0) == (b < 0) else -1)


class Astray(Exception):
    """An address that isn't wholly in data or stack."""


class Machine:
    def __init__(self, code, data, helpers):
        self.code = code
        self.data = bytearray(data)
        self.stack = bytearray(512)
        self.helpers = helpers
        self.regs = [0] * 11
        self.regs[1], self.regs[2], self.regs[10] = DATA, len(data), 1 << 33
        self.place = 0

    def fields(self, place):
        row = bytes(self.code[8 * place:8 * place + 8])
        off = int.from_bytes(row[2:4], "little", signed=True)
        return row[0], row[1] & 15, row[1] >> 4, off, int.from_bytes(row[4:], "little", signed=True)

    def found(self, address, size):
        for memory, base in ((self.data, DATA), (self.stack, STACK)):
            if base <= address and address + size <= base + len(memory):
                return memory, address - base
        raise Astray()

    def get(self, address, size):
        memory, place = self.found(address, size)
        return int.from_bytes(memory[place:place + size], "little")

    def put(self, address, size, number):
        memory, place = self.found(address, size)
        memory[place:place + size] = (number % (1 << 8 * size)).to_bytes(size, "little")

    def step(self):
        """Whether it goes on behind this instruction."""
        code, dst, src, off, imm = self.fields(self.place)
        if code == 0x95:
            return False
        self.place += 1
        group = code & 7
        if code == 0x18:
            self.regs[dst] = imm % DATA + (self.fields(self.place)[4] % DATA << 32)
            self.place += 1
        elif group in (4, 7):
            self.regs[dst] = self.arithmetic(code, dst, src, off, imm)
        elif code == 0x85:
            self.regs[0:6] = [self.helpers.pop(), 0, 0, 0, 0, 0]
        elif group in (5, 6):
            self.jump(code, dst, src, off, imm)
        else:
            self.memory(code, dst, src, off, imm)
        return True

    def arithmetic(self, code, dst, src, off, imm):
        bits = 64 if code & 7 == 7 else 32
        op = code >> 4
        if op == 13:
            low = (self.regs[dst] % (1 << imm)).to_bytes(imm // 8, "little")
            return int.from_bytes(low, "little" if code == 0xD4 else "big")
        a = self.regs[dst] % (1 << bits)
        b = (self.regs[src] if code & 8 else imm) % (1 << bits)
        sa, sb = signed(a, bits), signed(b, bits)
        if op in (3, 9) and b == 0:
            return 0 if op == 3 else a
        if op in (3, 9) and off:
            quotient = to_zero(sa, sb)
            return (quotient if op == 3 else sa - quotient * sb) % (1 << bits)
        if op == 11 and off:
            return signed(b, off) % (1 << bits)
        return {0: lambda: a + b, 1: lambda: a - b, 2: lambda: a * b, 3: lambda: a // b, 4: lambda: a | b,
                5: lambda: a & b, 6: lambda: a << b % bits, 7: lambda: a >> b % bits, 8: lambda: -a,
                9: lambda: a % b, 10: lambda: a ^ b, 11: lambda: b, 12: lambda: sa >> b % bits}[op]() % (1 << bits)

    def jump(self, code, dst, src, off, imm):
        bits = 64 if code & 7 == 5 else 32
        a = self.regs[dst] % (1 << bits)
        b = (self.regs[src] if code & 8 else imm) % (1 << bits)
        sa, sb = signed(a, bits), signed(b, bits)
        is_so = {0: True, 1: a == b, 2: a > b, 3: a >= b, 4: a & b != 0, 5: a != b, 6: sa > sb, 7: sa >= sb,
                 10: a < b, 11: a <= b, 12: sa < sb, 13: sa <= sb}[code >> 4]
        if is_so:
            self.place += imm if code == 6 else off

    def memory(self, code, dst, src, off, imm):
        size = SIZES[code & 24]
        group = code & 7
        if group == 1:
            number = self.get(self.regs[src] + off, size)
            self.regs[dst] = signed(number, 8 * size) % WORD if code & 0xE0 == 0x80 else number
            return
        address = self.regs[dst] + off
        if code & 0xE0 == 0x60:
            self.put(address, size, imm if group == 2 else self.regs[src])
            return
        if address % size:
            raise Astray()
        m, x = self.get(address, size), self.regs[src]
        if imm == 0xF1:
            if m == self.regs[0] % (1 << 8 * size):
                self.put(address, size, x)
            self.regs[0] = m
            return
        self.put(address, size, {0: m + x, 0x40: m | x, 0x50: m & x, 0xA0: m ^ x, 0xE0: x}[imm & 0xFE])
        if imm & 1:
            self.regs[src] = m


class Chance:
    """Programs whose addresses are mostly good: registers 6 to 8 are made addresses now and then."""

    def __init__(self, seed):
        self.random = random.Random(seed)

    def number(self):
        edges = [0, 1, 7, 8, 63, 255, 511, 512, 1 << 20, (1 << 31) - 1, 1 << 31, (1 << 32) - 1, 1 << 32, 1 << 63]
        return (self.random.choice(edges) + self.random.choice([0, 0, 0, 1, -1, 5])) % WORD

    def imm(self):
        return signed(self.number(), 32) if self.random.random() < 0.4 else self.random.randint(-20, 70)

    def reg(self):
        return self.random.choice([0, 0, 1, 2, 3, 3, 3, 4, 4, 5, 6, 7, 8, 9])

    def arithmetic(self):
        pick = self.random.choice
        group = pick([7, 7, 4])
        op = pick([0, 0, 1, 1, 2, 3, 4, 5, 5, 6, 7, 7, 8, 9, 10, 11, 11, 12, 13])
        if op == 13:
            return ins(pick([0xD7, 0xD4, 0xDC]), self.reg(), imm=pick([16, 32, 64]))
        if op == 8:
            return ins(0x80 + group, self.reg())
        off = pick([0, 0, 1]) if op in (3, 9) else 0
        if pick([True, False]):
            if op == 11:
                off = pick([0, 0, 0, 8, 16, 32 if group == 7 else 0])
            return ins(16 * op + 8 + group, self.reg(), pick([self.reg(), 10]), off)
        return ins(16 * op + group, self.reg(), off=off, imm=self.imm())

    def jump(self, left):
        pick = self.random.choice
        group = pick([5, 5, 6])
        off = self.random.randint(0, min(left, 6))
        op = pick([1, 2, 3, 4, 5, 6, 7, 10, 11, 12, 13])
        if pick([True, False]):
            return ins(16 * op + 8 + group, self.reg(), self.reg(), off)
        return ins(16 * op + group, self.reg(), off=off, imm=self.imm())

    def memory(self):
        pick = self.random.choice
        base, off = pick([(1, pick([0, 1, 4, 8, 16])), (10, -8 * pick([1, 1, 2, 3])),
                          (10, -pick([1, 2, 5, 9, 12, 16]))])
        base = pick([base, base, base, 6, 7])
        way = pick([1, 1, 2, 3, 3, 0xC])
        if way == 1:
            return ins(pick([0x61, 0x69, 0x71, 0x79, 0x79, 0x81, 0x89, 0x91]), self.reg(), base, off)
        if way == 2:
            return ins(pick([0x62, 0x6A, 0x72, 0x7A, 0x7A]), base, off=off, imm=self.imm())
        if way == 3:
            return ins(pick([0x63, 0x6B, 0x73, 0x7B, 0x7B]), base, pick([self.reg(), 10]), off)
        return ins(pick([0xC3, 0xDB]), base, self.reg(), off & -8,
                   pick([0, 1, 0x40, 0x41, 0x50, 0x51, 0xA0, 0xA1, 0xE1, 0xF1]))

    def some(self, left):
        kind = self.random.random()
        if kind < 0.45:
            return self.arithmetic()
        if kind < 0.6:
            return self.jump(left)
        if kind < 0.63:
            return ins(0x85, imm=self.imm())
        if kind < 0.68:
            return ins(0xBF, self.random.choice([6, 7]), self.random.choice([1, 10]))
        if kind < 0.75:
            return wide(self.reg(), self.number())
        return self.memory()

    def program(self):
        """Jumps may lead into a second half; then it's refused, and another is made."""
        count = self.random.randint(2, 24)
        rows = [ins(0xBF, 6, 1), ins(0xBF, 7, 10), ins(0x79, 3, 1), ins(0x71, 4, 1, 8)]
        rows += [self.some(count - place) for place in range(count)]
        return [byte for row in rows for byte in row] + END * 8


class SoundTest(unittest.TestCase):
    def watched(self, code, least, data, helpers):
        """The states of one run: place, then registers and pieces."""
        machine = Machine(code, data, helpers)
        states = []
        goes_on = True
        while goes_on:
            pieces = [int.from_bytes(machine.stack[k:k + 8], "little") for k in range(0, 512, 8)]
            states.append((machine.place, list(machine.regs) + pieces))
            goes_on = machine.step()
        return states

    def holds(self, span, number):
        base = {0: 0, 1: DATA, 2: STACK}[span[0]]
        return base + span[1] <= number <= base + span[2]

    def check_run(self, code, least, data, helpers):
        states = self.watched(code, least, data, helpers)
        places = sorted({place for place, numbers in states})
        slots = list(range(11)) + [11, 12, 70, 71, 72, 73, 74]
        # A line has 400 calls at most, so the ranges are asked for piece by piece.
        told = {}
        for place in places:
            found = ask(load(code), judge(least), *[tell(place, slot) for slot in slots])
            told[place] = found[2:]
        for place, numbers in states:
            for slot, span in zip(slots, told[place]):
                self.assertNotEqual(span, [3], (code, least, place))
                self.assertTrue(self.holds(span, numbers[slot]), (code, least, data, place, slot, span, numbers[slot]))

    def test_programs_of_chance(self):
        good = 0
        for seed in range(1500):
            chance = Chance(seed)
            least = chance.random.choice([24, 32, 256])
            code = chance.program()
            if ask(load(code), judge(least)) != [[0], [0]]:
                continue
            good += 1
            for turn in range(2):
                size = least if turn == 0 else chance.random.randint(least, 256)
                data = [chance.random.choice([0, 1, 127, 128, 255, chance.random.randrange(256)]) for k in range(size)]
                self.check_run(code, least, data, [chance.number() for k in range(40)])
        self.assertGreater(good, 150)


if __name__ == "__main__":
    unittest.main()
