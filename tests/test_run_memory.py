"""Runs: loads, stores and exchanges, in data and stack and outside of them."""

import unittest

from tests.helper import END, ins, ran, wide

MAX = (1 << 64) - 1
DATA = 1 << 32
TOP = 1 << 33
LOW = TOP - 512
SIZES = {0: 4, 8: 2, 16: 1, 24: 8}
FULL = [(7 * place + 131) % 256 for place in range(256)]
EMPTY = [0] * 512
START = [0, DATA, 0, 0, 0, 0, 0, 0, 0, 0, TOP]
EXCHANGES = (0x00, 0x01, 0x40, 0x41, 0x50, 0x51, 0xA0, 0xA1, 0xE1, 0xF1)


def number_of(row):
    return int.from_bytes(bytes(row), "little")


def bytes_of(number, size):
    return list((number % (1 << 8 * size)).to_bytes(size, "little"))


def put(memory, place, row):
    return memory[:place] + row + memory[place + len(row):]


def signed(row):
    return int.from_bytes(bytes(row), "little", signed=True) % (1 << 64)


class LoadTest(unittest.TestCase):
    def test_from_data(self):
        for bits, size in SIZES.items():
            for place in (0, 1, 3, 100, 256 - size):
                found = ran([wide(3, MAX), ins(0x61 + bits, 3, 1, place), END], FULL)
                self.assertEqual(found.end(), (0, -1))
                self.assertEqual(found.regs[3], number_of(FULL[place:place + size]))
                self.assertEqual((found.data, found.stack), (FULL, EMPTY))

    def test_with_sign(self):
        data = [0x80, 0x7F, 0xFF, 0x80, 0x7F, 0, 0xFF, 0xFF, 0xFF, 0xFF, 0x12, 0x34, 0x56, 0x78, 0xFE]
        for bits, size in ((0, 4), (8, 2), (16, 1)):
            for place in range(len(data) - size + 1):
                found = ran([ins(0x81 + bits, 3, 1, place), END], data)
                self.assertEqual(found.end(), (0, -1))
                self.assertEqual(found.regs[3], signed(data[place:place + size]))

    def test_signs_by_hand(self):
        for code, data, expected in ((0x91, [0x7F], 0x7F), (0x91, [0x80], MAX - 0x7F), (0x91, [0xFF], MAX),
                                     (0x71, [0xFF], 0xFF), (0x89, [0xFF, 0x7F], 0x7FFF),
                                     (0x89, [0, 0x80], MAX - 0x7FFF), (0x69, [0, 0x80], 0x8000),
                                     (0x81, [0, 0, 0, 0x80], MAX - 0x7FFFFFFF), (0x61, [0, 0, 0, 0x80], 1 << 31),
                                     (0x81, [1, 2, 3, 4], 0x04030201), (0x79, [1, 2, 3, 4, 5, 6, 7, 0x88],
                                                                        0x8807060504030201)):
            self.assertEqual(ran([ins(code, 3, 1), END], data).regs[3], expected, (hex(code), data))

    def test_from_the_stack(self):
        rows = [wide(4, 0x8877665544332211), ins(0x7B, 10, 4, -8), ins(0x7B, 10, 4, -512)]
        row = bytes_of(0x8877665544332211, 8)
        for bits, size in SIZES.items():
            for off in (-512, -512 + 8 - size, -8, -size):
                found = ran(rows + [ins(0x61 + bits, 3, 10, off), END])
                start = (off + 512) % 8
                self.assertEqual((found.end(), found.regs[3]), ((0, -1), number_of(row[start:start + size])))
        for code, off, expected in ((0x91, -1, MAX - 0x77), (0x91, -512, 0x11), (0x89, -2, MAX - 0x7788),
                                    (0x81, -4, MAX - 0x778899AA), (0x81, -512, 0x44332211)):
            self.assertEqual(ran(rows + [ins(code, 3, 10, off), END]).regs[3], expected)

    def test_across_pieces(self):
        rows = [wide(4, 0x8877665544332211), ins(0x7B, 10, 4, -16), ins(0x7B, 10, 4, -8)]
        self.assertEqual(ran(rows + [ins(0x79, 3, 10, -13), END]).regs[3], 0x3322118877665544)

    def test_into_the_address(self):
        found = ran([ins(0x79, 1, 1, 8), END], FULL)
        self.assertEqual(found.regs[1], number_of(FULL[8:16]))

    def test_an_address_that_is_reckoned(self):
        # 2^32 from numbers alone, with off on either side.
        for base, off in ((DATA + 50, -50), (DATA - 50, 50), (DATA - 32767, 32767), (DATA + 32768, -32768)):
            found = ran([wide(5, base), ins(0x71, 3, 5, off), END], [77])
            self.assertEqual((found.end(), found.regs[3]), ((0, -1), 77))
        for base, off in ((LOW - 32767, 32767), (TOP - 1 + 32768, -32768), (LOW, 511)):
            found = ran([wide(5, base), ins(0x72, 5, off=off, imm=9), END])
            self.assertEqual((found.end(), sum(found.stack)), ((0, -1), 9))


class StoreTest(unittest.TestCase):
    def test_of_a_register(self):
        number = 0x8899AABBCCDDEEFF
        for bits, size in SIZES.items():
            for place in (0, 1, 3, 100, 256 - size):
                found = ran([wide(3, number), ins(0x63 + bits, 1, 3, place), END], FULL)
                self.assertEqual(found.end(), (0, -1))
                self.assertEqual(found.data, put(FULL, place, bytes_of(number, size)))
                self.assertEqual((found.stack, found.regs[3]), (EMPTY, number))

    def test_of_imm(self):
        for bits, size in SIZES.items():
            for imm in (0x11223344, -2, -(1 << 31)):
                for place in (0, 5, 256 - size):
                    found = ran([ins(0x62 + bits, 1, off=place, imm=imm), END], FULL)
                    self.assertEqual(found.end(), (0, -1))
                    self.assertEqual(found.data, put(FULL, place, bytes_of(imm, size)))

    def test_imm_is_extended(self):
        self.assertEqual(ran([ins(0x7A, 1, imm=-2), END], [0] * 9).data, [254] + [255] * 7 + [0])
        self.assertEqual(ran([ins(0x7A, 1, imm=5), END], [9] * 9).data, [5] + [0] * 7 + [9])

    def test_in_the_stack(self):
        number = 0x8899AABBCCDDEEFF
        for bits, size in SIZES.items():
            for place in (0, 3, 8, 250, 512 - size):
                found = ran([wide(3, number), ins(0x63 + bits, 10, 3, place - 512), END], FULL)
                self.assertEqual(found.stack, put(EMPTY, place, bytes_of(number, size)))
                self.assertEqual((found.end(), found.data), ((0, -1), FULL))
                found = ran([ins(0x62 + bits, 10, off=place - 512, imm=-3), END])
                self.assertEqual(found.stack, put(EMPTY, place, bytes_of(-3, size)))

    def test_of_the_address_itself(self):
        found = ran([ins(0x7B, 1, 1), ins(0x7B, 10, 10, -8), END], FULL)
        self.assertEqual(found.data[:8], bytes_of(DATA, 8))
        self.assertEqual(found.stack[504:], bytes_of(TOP, 8))

    def test_what_is_stored_is_loaded(self):
        rows = [wide(3, 0x0123456789ABCDEF), ins(0x7B, 1, 3, 9), ins(0x61, 4, 1, 9), ins(0x69, 5, 1, 11),
                ins(0x71, 6, 1, 16), ins(0x91, 7, 1, 12), END]
        found = ran(rows, FULL)
        self.assertEqual(found.regs[4:8], [0x89ABCDEF, 0x89AB, 0x01, MAX - 0x76])


class OutsideTest(unittest.TestCase):
    def check_astray(self, rows, data, place):
        """The run stops there, and nothing but what was put in registers has changed."""
        found = ran(rows, data)
        self.assertEqual(found.end(), (1, place), rows)
        self.assertEqual((found.data, found.stack), (list(data), EMPTY))
        return found.regs

    def check_all(self, base, off, size, data):
        """Loads, stores and exchanges of that size."""
        bits = [bits for bits, each in SIZES.items() if each == size][0]
        start = list(START)
        start[0], start[2], start[3], start[4] = base, len(data), 5, base
        rows = [wide(4, base), ins(0xB7, 3, imm=5), ins(0xBF, 0, 4)]
        last = [ins(0x61 + bits, 3, 4, off), ins(0x63 + bits, 4, 3, off), ins(0x62 + bits, 4, off=off, imm=1)]
        if size < 8:
            last.append(ins(0x81 + bits, 3, 4, off))
        if size > 2:
            last += [ins(0xC3 + bits, 4, 3, off, imm) for imm in EXCHANGES]
        for row in last:
            self.assertEqual(self.check_astray(rows + [row, END], data, 4), start, row)

    def test_just_outside(self):
        for size in (1, 2, 4, 8):
            for data in ([], [1], FULL[:size - 1], FULL[:8], FULL):
                end = DATA + len(data)
                for address in (DATA - size, DATA - 1, end, end - size + 1):
                    if address + size > end or address < DATA:
                        self.check_all(address, 0, size, data)
                        self.check_all(address - 7, 7, size, data)
            for address in (LOW - size, LOW - 1, TOP, TOP - size + 1):
                if address + size > TOP or address < LOW:
                    self.check_all(address, 0, size, FULL)
                    self.check_all(address + 8, -8, size, FULL)

    def test_far_outside(self):
        for size in (1, 2, 4, 8):
            for base, off in ((0, 0), (0, -1), (0, -8), (0, -32768), (8, -8), (MAX, 0), (MAX, 1), (MAX - 7, 0),
                              (MAX - 7, 8), (MAX, 32767), (1 << 63, 0), (DATA + 4096, 0), (DATA + 256, 0),
                              (LOW - 4096, 0), (TOP + 4096, 0), (3 << 32, 0), (DATA << 1, 0), (DATA >> 1, 0)):
                self.check_all(base, off, size, FULL)

    def test_every_bit_of_an_address_counts(self):
        for base in ((1 << 63) + DATA, (1 << 40) + DATA, (1 << 63) + TOP - 8, DATA - (1 << 16), 1 << 16):
            self.check_all(base, 0, 8, FULL)

    def test_partly_outside(self):
        for bits, size in ((0, 4), (8, 2), (24, 8)):
            for short in range(1, size):
                data = FULL[:16 + size - short]
                self.check_astray([ins(0x61 + bits, 3, 1, 16), END], data, 0)
                self.check_astray([ins(0x63 + bits, 1, 3, 16), END], data, 0)
                self.check_astray([ins(0x62 + bits, 1, off=16, imm=-1), END], data, 0)
                self.check_astray([ins(0x61 + bits, 3, 1, -short), END], FULL, 0)
                self.check_astray([ins(0x62 + bits, 1, off=-short, imm=-1), END], FULL, 0)
                self.check_astray([ins(0x61 + bits, 3, 10, -short), END], FULL, 0)
                self.check_astray([ins(0x63 + bits, 10, 10, -short), END], FULL, 0)
                self.check_astray([ins(0x62 + bits, 10, off=-512 - short, imm=-1), END], FULL, 0)

    def test_no_data(self):
        for off in (0, -1, 1):
            self.check_astray([ins(0x71, 3, 1, off), END], [], 0)
            self.check_astray([ins(0x72, 1, off=off, imm=1), END], [], 0)
        self.assertEqual(ran([ins(0x72, 10, off=-1, imm=1), END], []).end(), (0, -1))

    def test_all_of_data(self):
        rows = [ins(0x71, 3, 1, 255), ins(0x79, 4, 1, 248), ins(0x72, 1, off=255, imm=1), END]
        found = ran(rows, FULL)
        self.assertEqual((found.end(), found.data), ((0, -1), FULL[:255] + [1]))
        self.assertEqual(ran([ins(0x71, 3, 1, 256), END], FULL).end(), (1, 0))

    def test_what_was_done_stays(self):
        rows = [ins(0x72, 1, imm=9), ins(0x72, 10, off=-1, imm=8), ins(0xB7, 3, imm=7), ins(0x71, 4, 10), END]
        found = ran(rows, [1, 2])
        self.assertEqual(found.end(), (1, 3))
        self.assertEqual((found.data, found.stack[511], found.regs[3], found.regs[4]), ([9, 2], 8, 7, 0))


class ExchangeTest(unittest.TestCase):
    M = 0x8877665544332211
    X = 0xF0E1D2C3B4A59687

    def expected(self, imm, size, m, x, r0):
        """What stands there then, what src becomes, what r0 becomes."""
        low = m % (1 << 8 * size)
        if imm == 0xF1:
            return (x if low == r0 % (1 << 8 * size) else low), x, low
        new = {0: m + x, 0x40: m | x, 0x50: m & x, 0xA0: m ^ x, 0xE0: x}[imm & 0xFE]
        return new, (low if imm & 1 else x), r0

    def check(self, imm, size, m, x, r0):
        code = 0xC3 if size == 4 else 0xDB
        data = [99] * 8 + bytes_of(m, 8) + [98] * 8
        rows = [wide(0, r0), wide(3, x), ins(code, 1, 3, 8, imm), END]
        found = ran(rows, data)
        new, src, left = self.expected(imm, size, m, x, r0)
        self.assertEqual(found.end(), (0, -1))
        self.assertEqual(found.data, put(data, 8, bytes_of(new, size)), (hex(imm), size))
        self.assertEqual((found.regs[3], found.regs[0], found.regs[1]), (src, left, DATA), (hex(imm), size))
        rows = [wide(0, r0), wide(3, x), wide(4, m), ins(0x7B, 10, 4, -16), ins(code, 10, 3, -16, imm), END]
        found = ran(rows, data)
        self.assertEqual((found.end(), found.data), ((0, -1), data))
        self.assertEqual(found.stack, put(put(EMPTY, 496, bytes_of(m, 8)), 496, bytes_of(new, size)))
        self.assertEqual((found.regs[3], found.regs[0]), (src, left), (hex(imm), size))

    def test_each(self):
        for imm in EXCHANGES:
            for size in (4, 8):
                for m, x in ((self.M, self.X), (self.X, self.M), (0, 0), (MAX, 1), (MAX, MAX), (1, MAX)):
                    self.check(imm, size, m, x, 77)

    def test_by_hand(self):
        for imm, m, x, new in ((0x00, 7, 9, 16), (0x01, 7, 9, 16), (0x40, 5, 3, 7), (0x41, 5, 3, 7), (0x50, 5, 3, 1),
                               (0x51, 5, 3, 1), (0xA0, 5, 3, 6), (0xA1, 5, 3, 6), (0xE1, 5, 3, 3)):
            for code in (0xC3, 0xDB):
                found = ran([ins(0xB7, 3, imm=x), ins(code, 1, 3, 0, imm), END], bytes_of(m, 8))
                self.assertEqual(found.data, bytes_of(new, 8), hex(imm))
                self.assertEqual(found.regs[3], m if imm & 1 else x)
                self.assertEqual(found.regs[0], 0)

    def test_a_sum_is_cut(self):
        found = ran([ins(0xB7, 3, imm=1), ins(0xC3, 1, 3, 0, 0x01), END], [255] * 8)
        self.assertEqual((found.data, found.regs[3]), ([0] * 4 + [255] * 4, (1 << 32) - 1))
        found = ran([ins(0xB7, 3, imm=1), ins(0xDB, 1, 3, 0, 0x01), END], [255] * 8)
        self.assertEqual((found.data, found.regs[3]), ([0] * 8, MAX))

    def test_compared(self):
        low = self.M % (1 << 32)
        for r0 in (self.M, self.M + 1, low, low + (5 << 32), MAX, 0):
            self.check(0xF1, 8, self.M, self.X, r0)
            self.check(0xF1, 4, self.M, self.X, r0)

    def test_compared_by_hand(self):
        rows = [wide(0, (7 << 32) + 5), ins(0xB7, 3, imm=-1), ins(0xC3, 1, 3, 0, 0xF1), END]
        found = ran(rows, [5, 0, 0, 0, 9, 9, 9, 9])
        self.assertEqual((found.data, found.regs[0], found.regs[3]), ([255] * 4 + [9] * 4, 5, MAX))
        found = ran(rows, [6, 0, 0, 128, 9, 9, 9, 9])
        self.assertEqual((found.data, found.regs[0], found.regs[3]), ([6, 0, 0, 128] + [9] * 4, 0x80000006, MAX))

    def test_src_is_the_address(self):
        for imm in EXCHANGES:
            for code, size in ((0xC3, 4), (0xDB, 8)):
                data = bytes_of(self.M, 8)
                found = ran([wide(0, 3), ins(code, 1, 1, 0, imm), END], data)
                new, src, left = self.expected(imm, size, self.M, DATA, 3)
                self.assertEqual(found.data, put(data, 0, bytes_of(new, size)))
                self.assertEqual((found.regs[1], found.regs[0]), (src, left))

    def test_src_is_r0(self):
        for r0 in (self.X, self.M, self.M % (1 << 32)):
            for code, size in ((0xC3, 4), (0xDB, 8)):
                data = bytes_of(self.M, 8)
                low = self.M % (1 << 8 * size)
                for imm in EXCHANGES:
                    found = ran([wide(0, r0), ins(code, 1, 0, 0, imm), END], data)
                    new = self.expected(imm, size, self.M, r0, r0)[0]
                    self.assertEqual(found.data, put(data, 0, bytes_of(new, size)))
                    self.assertEqual(found.regs[0], low if imm & 1 else r0)

    def test_the_address_is_r0(self):
        for code, size in ((0xC3, 4), (0xDB, 8)):
            for m in (self.M, DATA):
                data = bytes_of(m, 8)
                found = ran([ins(0xBF, 0, 1), wide(3, self.X), ins(code, 0, 3, 0, 0xF1), END], data)
                low = m % (1 << 8 * size)
                new = self.X if low == DATA % (1 << 8 * size) else low
                self.assertEqual((found.data, found.regs[0]), (put(data, 0, bytes_of(new, size)), low))

    def test_all_three_are_r0(self):
        for code, size in ((0xC3, 4), (0xDB, 8)):
            for imm in EXCHANGES:
                for m in (self.M, DATA):
                    found = ran([ins(0xBF, 0, 1), ins(code, 0, 0, 0, imm), END], bytes_of(m, 8))
                    new = self.expected(imm, size, m, DATA, DATA)[0]
                    self.assertEqual(found.data, put(bytes_of(m, 8), 0, bytes_of(new, size)))
                    self.assertEqual(found.regs[0], m % (1 << 8 * size) if imm & 1 else DATA)

    def test_register_10_as_src(self):
        for imm in (0x00, 0x40, 0x50, 0xA0, 0xF1):
            found = ran([ins(0xDB, 1, 10, 0, imm), END], bytes_of(0, 8))
            self.assertEqual((found.end(), found.regs[10]), ((0, -1), TOP))
            self.assertEqual(found.data, bytes_of(0 if imm == 0x50 else TOP, 8))

    def test_no_multiple(self):
        for imm in EXCHANGES:
            for code, size in ((0xC3, 4), (0xDB, 8)):
                for place in range(9):
                    how = (0, -1) if place % size == 0 else (1, 2)
                    found = ran([wide(4, DATA + place), ins(code, 4, 3, 0, imm), END], FULL)
                    self.assertEqual(found.end(), how, (imm, size, place))
                    found = ran([wide(4, DATA + 3), ins(code, 4, 3, place - 3, imm), END], FULL)
                    self.assertEqual(found.end(), how, (imm, size, place))
                    if place % size:
                        self.assertEqual((found.data, found.regs[0], found.regs[3]), (FULL, 0, 0))
                    how = (0, -1) if place % size == 0 else (1, 0)
                    self.assertEqual(ran([ins(code, 10, 3, place - 64, imm), END]).end(), how)

    def test_at_the_ends(self):
        for code, size in ((0xC3, 4), (0xDB, 8)):
            for rows, how in (([ins(code, 1, 3, 256 - size), END], (0, -1)), ([ins(code, 1, 3, 256), END], (1, 0)),
                              ([ins(code, 1, 3, -size), END], (1, 0)), ([ins(code, 10, 3, -512), END], (0, -1)),
                              ([ins(code, 10, 3, -size), END], (0, -1)), ([ins(code, 10, 3), END], (1, 0)),
                              ([ins(code, 10, 3, -512 - size), END], (1, 0))):
                self.assertEqual(ran(rows, FULL).end(), how)
        # A multiple of eight, but the data ends in the midst.
        self.assertEqual(ran([ins(0xDB, 1, 3), END], FULL[:7]).end(), (1, 0))
        self.assertEqual(ran([ins(0xC3, 1, 3), END], FULL[:7]).end(), (0, -1))


if __name__ == "__main__":
    unittest.main()
