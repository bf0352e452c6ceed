"""Promises 2, 3 and 4 on programs of chance. Runs must be, to the bit, those of a machine of this file's own that's
written from the document alone. Programs that are judged good must keep to their memory and, before each instruction,
to what's told."""

import random
import unittest

from tests.helper import ALL_LEFT, END, Ran, ask, ins, judge, load, ran, run, tell, wide

WORD = 1 << 64
DATA = 1 << 32
STACK = (1 << 33) - 512
SIZES = {0: 4, 8: 2, 16: 1, 24: 8}


def signed(number, bits):
    number %= 1 << bits
    return number - (1 << bits) if number >= 1 << (bits - 1) else number


def to_zero(a, b):
    return abs(a) // abs(b) * (1 if (a < 0) == (b < 0) else -1)


class Stopped(Exception):
    """The way in which a run has ended."""


class Machine:
    def __init__(self, code, data, helpers):
        self.code = code
        self.data = bytearray(data)
        self.stack = bytearray(512)
        self.answers = list(zip(helpers[::2], helpers[1::2]))
        self.asked = []
        self.regs = [0] * 11
        self.regs[1], self.regs[2], self.regs[10] = DATA, len(data), 1 << 33
        self.place = 0

    def end(self, most):
        """How it ends, and the place."""
        place = 0
        try:
            for begun in range(most):
                place = self.place
                self.step()
            return 2, self.place
        except Stopped as stopped:
            how = stopped.args[0]
            return how, -1 if how == 0 else place

    def fields(self, place):
        row = bytes(self.code[8 * place:8 * place + 8])
        off = int.from_bytes(row[2:4], "little", signed=True)
        return row[0], row[1] & 15, row[1] >> 4, off, int.from_bytes(row[4:], "little", signed=True)

    def found(self, address, size):
        for memory, base in ((self.data, DATA), (self.stack, STACK)):
            if base <= address and address + size <= base + len(memory):
                return memory, address - base
        raise Stopped(1)

    def get(self, address, size):
        memory, place = self.found(address, size)
        return int.from_bytes(memory[place:place + size], "little")

    def put(self, address, size, number):
        memory, place = self.found(address, size)
        memory[place:place + size] = (number % (1 << 8 * size)).to_bytes(size, "little")

    def ask(self, imm):
        self.asked.append([imm % DATA, *self.regs[1:6], self.regs[0]])
        number, code = self.answers.pop(0) if self.answers else (0, 0)
        if code != 0:
            raise Stopped(3)
        self.regs[0:6] = [number, 0, 0, 0, 0, 0]

    def step(self):
        code, dst, src, off, imm = self.fields(self.place)
        if code == 0x95:
            raise Stopped(0)
        self.place += 1
        group = code & 7
        if code == 0x18:
            self.regs[dst] = imm % DATA + (self.fields(self.place)[4] % DATA << 32)
            self.place += 1
        elif group in (4, 7):
            self.regs[dst] = self.arithmetic(code, dst, src, off, imm)
        elif code == 0x85:
            self.ask(imm)
        elif group in (5, 6):
            self.jump(code, dst, src, off, imm)
        else:
            self.memory(code, dst, src, off, imm)

    def arithmetic(self, code, dst, src, off, imm):
        bits = 64 if code & 7 == 7 else 32
        op = code >> 4
        if op == 13:
            low = (self.regs[dst] % (1 << imm)).to_bytes(imm // 8, "little")
            return int.from_bytes(low, "little" if code == 0xD4 else "big")
        a = self.regs[dst] % (1 << bits)
        b = (self.regs[src] if code & 8 else imm) % (1 << bits)
        sa, sb = signed(a, bits), signed(b, bits)
        if op in (3, 9) and b == 0:
            return 0 if op == 3 else a
        if op in (3, 9) and off:
            quotient = to_zero(sa, sb)
            return (quotient if op == 3 else sa - quotient * sb) % (1 << bits)
        if op == 11 and off:
            return signed(b, off) % (1 << bits)
        return {0: lambda: a + b, 1: lambda: a - b, 2: lambda: a * b, 3: lambda: a // b, 4: lambda: a | b,
                5: lambda: a & b, 6: lambda: a << b % bits, 7: lambda: a >> b % bits, 8: lambda: -a,
                9: lambda: a % b, 10: lambda: a ^ b, 11: lambda: b, 12: lambda: sa >> b % bits}[op]() % (1 << bits)

    def jump(self, code, dst, src, off, imm):
        bits = 64 if code & 7 == 5 else 32
        a = self.regs[dst] % (1 << bits)
        b = (self.regs[src] if code & 8 else imm) % (1 << bits)
        sa, sb = signed(a, bits), signed(b, bits)
        is_so = {0: True, 1: a == b, 2: a > b, 3: a >= b, 4: a & b != 0, 5: a != b, 6: sa > sb, 7: sa >= sb,
                 10: a < b, 11: a <= b, 12: sa < sb, 13: sa <= sb}[code >> 4]
        if is_so:
            self.place += imm if code == 6 else off

    def memory(self, code, dst, src, off, imm):
        size = SIZES[code & 24]
        group = code & 7
        if group == 1:
            number = self.get(self.regs[src] + off, size)
            self.regs[dst] = signed(number, 8 * size) % WORD if code & 0xE0 == 0x80 else number
            return
        address = self.regs[dst] + off
        if code & 0xE0 == 0x60:
            self.put(address, size, imm if group == 2 else self.regs[src])
            return
        if address % size:
            raise Stopped(1)
        m, x = self.get(address, size), self.regs[src]
        if imm == 0xF1:
            if m == self.regs[0] % (1 << 8 * size):
                self.put(address, size, x)
            self.regs[0] = m
            return
        self.put(address, size, {0: m + x, 0x40: m | x, 0x50: m & x, 0xA0: m ^ x, 0xE0: x}[imm & 0xFE])
        if imm & 1:
            self.regs[src] = m


class Chance:
    """Programs whose addresses are mostly good: registers 6 to 8 are made addresses now and then."""

    def __init__(self, seed):
        self.random = random.Random(seed)

    def number(self):
        edges = [0, 1, 7, 8, 63, 255, 511, 512, 1 << 20, (1 << 31) - 1, 1 << 31, (1 << 32) - 1, 1 << 32, 1 << 63]
        return (self.random.choice(edges) + self.random.choice([0, 0, 0, 1, -1, 5])) % WORD

    def imm(self):
        return signed(self.number(), 32) if self.random.random() < 0.4 else self.random.randint(-20, 70)

    def reg(self):
        return self.random.choice([0, 0, 1, 2, 3, 3, 3, 4, 4, 5, 6, 7, 8, 9])

    def arithmetic(self):
        pick = self.random.choice
        group = pick([7, 7, 4])
        op = pick([0, 0, 1, 1, 2, 3, 4, 5, 5, 6, 7, 7, 8, 9, 10, 11, 11, 12, 13])
        if op == 13:
            return ins(pick([0xD7, 0xD4, 0xDC]), self.reg(), imm=pick([16, 32, 64]))
        if op == 8:
            return ins(0x80 + group, self.reg())
        off = pick([0, 0, 1]) if op in (3, 9) else 0
        if pick([True, False]):
            if op == 11:
                off = pick([0, 0, 0, 8, 16, 32 if group == 7 else 0])
            return ins(16 * op + 8 + group, self.reg(), pick([self.reg(), 10]), off)
        return ins(16 * op + group, self.reg(), off=off, imm=self.imm())

    def jump(self, left):
        pick = self.random.choice
        group = pick([5, 5, 6])
        off = self.random.randint(0, min(left, 6))
        op = pick([1, 2, 3, 4, 5, 6, 7, 10, 11, 12, 13])
        if pick([True, False]):
            return ins(16 * op + 8 + group, self.reg(), self.reg(), off)
        return ins(16 * op + group, self.reg(), off=off, imm=self.imm())

    def memory(self):
        pick = self.random.choice
        base, off = pick([(1, pick([0, 1, 4, 8, 16])), (10, -8 * pick([1, 1, 2, 3])),
                          (10, -pick([1, 2, 5, 9, 12, 16]))])
        base = pick([base, base, base, 6, 7])
        way = pick([1, 1, 2, 3, 3, 0xC])
        if way == 1:
            return ins(pick([0x61, 0x69, 0x71, 0x79, 0x79, 0x81, 0x89, 0x91]), self.reg(), base, off)
        if way == 2:
            return ins(pick([0x62, 0x6A, 0x72, 0x7A, 0x7A]), base, off=off, imm=self.imm())
        if way == 3:
            return ins(pick([0x63, 0x6B, 0x73, 0x7B, 0x7B]), base, pick([self.reg(), 10]), off)
        return ins(pick([0xC3, 0xDB]), base, self.reg(), off & -8,
                   pick([0, 1, 0x40, 0x41, 0x50, 0x51, 0xA0, 0xA1, 0xE1, 0xF1]))

    def some(self, left):
        kind = self.random.random()
        if kind < 0.45:
            return self.arithmetic()
        if kind < 0.6:
            return self.jump(left)
        if kind < 0.63:
            return ins(0x85, imm=self.imm())
        if kind < 0.68:
            return ins(0xBF, self.random.choice([6, 7]), self.random.choice([1, 10]))
        if kind < 0.75:
            return wide(self.reg(), self.number())
        return self.memory()

    def program(self):
        """Jumps may lead into a second half; then it's refused, and another is made."""
        count = self.random.randint(2, 24)
        rows = [ins(0xBF, 6, 1), ins(0xBF, 7, 10), ins(0x79, 3, 1), ins(0x71, 4, 1, 8)]
        rows += [self.some(count - place) for place in range(count)]
        return [byte for row in rows for byte in row] + END * 8


    def wild_memory(self):
        """Addresses near the ends of data and stack, and numbers that are none."""
        pick = self.random.choice
        row = self.memory()
        off = pick([0, 1, -1, -8, -512, -513, -511, 24, 28, 31, 32, 255, 256, self.random.randint(-40, 40)])
        row[2:4] = list((off % 65536).to_bytes(2, "little"))
        if self.random.random() < 0.3:
            keep = row[0] & 7 == 1
            row[1] = row[1] & 15 | self.reg() << 4 if keep else row[1] & 240 | self.reg()
        return row

    def wild(self, place, count):
        kind = self.random.random()
        if kind < 0.1:
            return self.wild_memory()
        row = self.jump(0)
        if kind < 0.25:
            row[2:4] = list((self.random.randint(-min(place + 1, 5), 3) % 65536).to_bytes(2, "little"))
            return row
        if kind < 0.3:
            by = self.random.randint(-min(place + 1, 4), 3)
            return self.random.choice([ins(0x05, off=by), ins(0x06, imm=by)])
        return self.some(count - place)

    def wild_program(self):
        """With jumps back, and addresses of all kinds."""
        count = self.random.randint(2, 24)
        rows = [ins(0xBF, 6, 1), ins(0xBF, 7, 10), ins(0x79, 3, 1), ins(0x71, 4, 1, 8)]
        rows += [self.wild(place, count) for place in range(count)]
        return [byte for row in rows for byte in row] + END * 8

    def data(self, size):
        pick = self.random.choice
        return [pick([0, 1, 127, 128, 255, self.random.randrange(256)]) for place in range(size)]

    def helpers(self, codes):
        """Some twos, with codes of which most are 0."""
        return [number for turn in range(self.random.randint(0, 12))
                for number in (min(self.number(), 10 ** 18), self.random.choice(codes))]


class RunTest(unittest.TestCase):
    def check_run(self, code, data, helpers, most):
        machine = Machine(code, data, helpers)
        end = machine.end(most)
        found = ran([code], data, helpers, most)
        self.assertEqual(found.end(), end, (code, data, helpers, most))
        self.assertEqual(found.asked, machine.asked, (code, data, helpers, most))
        self.assertEqual(found.data, list(machine.data), (code, data, helpers, most))
        self.assertEqual(found.regs, machine.regs, (code, data, helpers, most))
        self.assertEqual(found.stack, list(machine.stack), (code, data, helpers, most))
        return end[0]

    def test_programs_of_chance(self):
        ends = {0: 0, 1: 0, 2: 0, 3: 0}
        for seed in range(3000):
            chance = Chance(seed)
            code = chance.wild_program() if seed % 3 else chance.program()
            if ask(load(code)) != [[0]]:
                continue
            data = chance.data(chance.random.choice([16, 31, 32, 256]))
            helpers = chance.helpers([0, 0, 0, 0, 1, -1])
            for most in (chance.random.randint(0, 30), 300):
                ends[self.check_run(code, data, helpers, most)] += 1
        self.assertGreater(min(ends.values()), 40, ends)


class SoundTest(unittest.TestCase):
    def ranges(self, code, least):
        """What's told before each instruction, of all registers and pieces."""
        told = []
        for place in range(len(code) // 8):
            told.append(ask(load(code), judge(least), *[tell(place, slot) for slot in range(75)])[2:])
        return told

    def holds(self, span, number):
        base = {0: 0, 1: DATA, 2: STACK}[span[0]]
        return base + span[1] <= number <= base + span[2]

    def check_run(self, code, told, data, helpers):
        """A run is stopped before each of its instructions in turn: jumps don't go back, so there are few."""
        for most in range(len(code) // 8 + 1):
            found = ask(load(code), run(most, data, helpers), *ALL_LEFT)
            step = Ran(found[1], found[2:])
            if step.how != 2:
                self.assertIn(step.how, (0, 3), (code, data, helpers))
                return
            pieces = [int.from_bytes(bytes(step.stack[start:start + 8]), "little") for start in range(0, 512, 8)]
            for span, number in zip(told[step.place], step.regs + pieces):
                self.assertNotIn(span, ([3], [-1]), (code, step.place))
                self.assertTrue(self.holds(span, number), (code, data, helpers, step.place, span, number))
        self.fail("a run that's judged good is longer than its program")

    def test_programs_of_chance(self):
        good = 0
        for seed in range(900):
            chance = Chance(seed)
            least = chance.random.choice([24, 32, 256])
            code = chance.program()
            if ask(load(code), judge(least)) != [[0], [0]]:
                continue
            good += 1
            told = self.ranges(code, least)
            for size, codes in ((least, [0]), (chance.random.randint(least, 256), [0, 0, 0, 1, -1])):
                self.check_run(code, told, chance.data(size), chance.helpers(codes))
        self.assertGreater(good, 100)

    def check_bytes(self, rows, least=2, pairs=None):
        """A program that's good, on data whose first two bytes are all of these pairs."""
        code = [byte for row in rows for byte in row]
        self.assertEqual(ask(load(code), judge(least)), [[0], [0]], code)
        told = self.ranges(code, least)
        edges = (0, 9, 10, 15, 20, 21, 128, 255)
        for one, other in pairs or [(one, other) for one in edges for other in (10, 13, 20)]:
            self.check_run(code, told, [one, other] + [0] * (least - 2), [])

    def test_comparisons(self):
        """Of r3, a byte, with r4, a byte from 10 to 20, with imm, and with itself; then the same again."""
        begin = [ins(0x71, 3, 1), ins(0x71, 4, 1, 1), ins(0xA5, 4, off=6, imm=10), ins(0x25, 4, off=5, imm=20)]
        for op in (1, 2, 3, 4, 5, 6, 7, 10, 11, 12, 13):
            for group in (5, 6):
                code = 16 * op + group
                for jump, again in ((ins(code + 8, 3, 4, 2), ins(code + 8, 4, 3, 1)),
                                    (ins(code, 3, off=2, imm=10), ins(code, 3, off=1, imm=20)),
                                    (ins(code + 8, 3, 3, 2), ins(code, 3, off=1, imm=-1))):
                    self.check_bytes(begin + [jump, again, ins(0x05), ins(0x87, 3), END, END])

    def test_operations(self):
        """Of r3, a byte, and r4, a byte from 10 to 20, in both classes; and of r4 alone."""
        begin = [ins(0x71, 3, 1), ins(0x71, 4, 1, 1), ins(0xA5, 4, off=5, imm=10), ins(0x25, 4, off=4, imm=20)]
        for op in (0, 1, 2, 3, 4, 5, 6, 7, 9, 10, 11, 12):
            for group in (7, 4):
                for off in {3: (0, 1), 9: (0, 1), 11: (0, 8, 16)}.get(op, (0,)):
                    code = 16 * op + group
                    rows = [ins(code + 8, 3, 4, off), ins(code + 8, 4, 4, off), ins(code + 8, 4, 3, off), END, END]
                    self.check_bytes(begin + rows)
                    if op != 11:
                        rows = [ins(code, 3, off=off, imm=3), ins(code, 4, off=off, imm=-3), ins(0x87, 4), END, END]
                        self.check_bytes(begin + rows)

    def test_an_index_into_data(self):
        """A byte of data tells where to read and write, up to the last byte that's surely there."""
        rows = [ins(0x71, 3, 1), ins(0x25, 3, off=4, imm=20), ins(0x0F, 3, 1), ins(0x79, 5, 3, 4), ins(0x73, 3, 5, 11),
                ins(0x81, 5, 3, 8), END]
        code = [byte for row in rows for byte in row]
        self.assertEqual(ask(load(code), judge(31))[1], [1, 3])
        self.check_bytes(rows, 32, [(one, 7) for one in range(256)])

    def test_an_index_from_a_helper(self):
        rows = [ins(0xBF, 6, 1), ins(0x85, imm=1), ins(0x57, 0, imm=31), ins(0x0F, 6, 0), ins(0x71, 3, 6, 1),
                ins(0x7B, 10, 6, -8), ins(0x79, 7, 10, -8), ins(0x72, 7, off=1, imm=9), END]
        code = [byte for row in rows for byte in row]
        self.assertEqual(ask(load(code), judge(32))[1], [1, 4])
        self.assertEqual(ask(load(code), judge(33))[1], [0])
        told = self.ranges(code, 33)
        for number in (0, 1, 30, 31, 32, 33, 255, 1 << 32, 10 ** 18):
            for helpers in ([], [number, 0], [number, 1], [number, -1, 0, 0]):
                for count in (33, 34, 256):
                    self.check_run(code, told, [5] * count, helpers)


if __name__ == "__main__":
    unittest.main()
