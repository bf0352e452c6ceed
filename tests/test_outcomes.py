"""The number that comes out of an operation, to the bit: in a run, and as a range of one number."""

import unittest

from tests.helper import END, after, ask, ins, judge, load, ran, reg, run, tell, wide

MAX = (1 << 64) - 1
TOP = 1 << 63
MAX32 = (1 << 32) - 1
TOP32 = 1 << 31


def minus(number, bits=64):
    return (1 << bits) - number


def run_alone(rows, x=0):
    """Register 3 behind a run that must leave all others as they were."""
    found = ran(rows)
    assert found.end() == (0, -1), found.end()
    others = found.regs[:3] + found.regs[4:]
    assert others == [0, 1 << 32, 0, x, 0, 0, 0, 0, 0, 1 << 33], others
    return found.regs[3]


def by_imm(code, dst, imm, off=0):
    """What's told, and what a run leaves in register 3."""
    row = ins(code, 3, off=off, imm=imm)
    return after(row, (0, dst, dst)), run_alone([wide(3, dst), row, END])


def by_src(code, dst, x, off=0):
    row = ins(code, 3, 4, off)
    return after(row, (0, dst, dst), (0, x, x)), run_alone([wide(3, dst), wide(4, x), row, END], x)


def by_itself(code, number, off=0):
    """Where dst and src are one register."""
    row = ins(code, 3, 3, off)
    return after(row, (0, number, number)), run_alone([wide(3, number), row, END])


class OutcomeTest(unittest.TestCase):
    def check_src(self, code, rows, off=0):
        for dst, x, expected in rows:
            found = by_src(code, dst, x, off)
            self.assertEqual(found, ([0, expected, expected], expected), (hex(code), hex(dst), hex(x)))

    def check_imm(self, code, rows, off=0):
        for dst, imm, expected in rows:
            found = by_imm(code, dst, imm, off)
            self.assertEqual(found, ([0, expected, expected], expected), (hex(code), hex(dst), imm))

    def check_itself(self, code, rows, off=0):
        for number, expected in rows:
            found = by_itself(code, number, off)
            self.assertEqual(found, ([0, expected, expected], expected), (hex(code), hex(number)))

    def test_add(self):
        self.check_src(0x0F, [(1, 2, 3), (MAX, 1, 0), (MAX, MAX, MAX - 1), (TOP, TOP, 0), (MAX, 0, MAX)])
        self.check_imm(0x07, [(5, -1, 4), (0, -1, MAX), (0, -TOP32, minus(TOP32)), (0, 0x7FFFFFFF, 0x7FFFFFFF)])
        self.check_src(0x0C, [(MAX32, 1, 0), (MAX, MAX, MAX32 - 1), (1 << 32, 1 << 33, 0), ((1 << 40) + 5, 6, 11)])
        self.check_imm(0x04, [(0, -1, MAX32), (5, -1, 4), (MAX, 1, 0), (1 << 32, 0, 0)])

    def test_sub(self):
        self.check_src(0x1F, [(5, 3, 2), (3, 5, MAX - 1), (0, 1, MAX), (0, MAX, 1), (TOP, 1, TOP - 1)])
        self.check_imm(0x17, [(5, -1, 6), (0, 1, MAX), (MAX, -1, 0)])
        self.check_src(0x1C, [(3, 5, MAX32 - 1), (1 << 32, 1, MAX32), (5, (1 << 32) + 3, 2)])
        self.check_imm(0x14, [(5, -1, 6), (MAX, -1, 0), (0, 1, MAX32)])

    def test_mul(self):
        self.check_src(0x2F, [(6, 7, 42), (MAX, MAX, 1), (TOP, 2, 0), (1 << 32, 1 << 32, 0), (TOP, 3, TOP)])
        self.check_imm(0x27, [(6, -1, minus(6)), (0, -1, 0)])
        self.check_src(0x2C, [(MAX32, MAX32, 1), (1 << 16, 1 << 16, 0), ((1 << 32) + 3, (1 << 32) + 5, 15)])
        self.check_imm(0x24, [(6, -1, minus(6, 32))])

    def test_div(self):
        self.check_src(0x3F, [(7, 2, 3), (7, 0, 0), (MAX, 0, 0), (MAX, MAX, 1), (MAX - 1, MAX, 0), (0, 5, 0)])
        self.check_imm(0x37, [(7, 0, 0), (MAX, -1, 1), (5, -1, 0), (MAX, 2, TOP - 1)])
        self.check_src(0x3C, [(MAX, 2, MAX32 >> 1), (7, 1 << 32, 0), ((1 << 32) + 7, 2, 3)])
        self.check_imm(0x34, [(MAX, -1, 1), (5, -1, 0), (MAX, 0, 0), (1 << 32, 1, 0)])

    def test_div_signed(self):
        self.check_src(0x3F, [(7, 2, 3), (minus(7), 2, minus(3)), (7, minus(2), minus(3)), (minus(7), minus(2), 3),
                              (TOP, MAX, TOP), (TOP, 1, TOP), (5, 0, 0), (minus(5), 0, 0), (1, TOP, 0), (TOP, TOP, 1),
                              (minus(1), 2, 0), (minus(1), 1, MAX), (5, MAX, minus(5)), (MAX, MAX, 1)], 1)
        self.check_imm(0x37, [(7, -2, minus(3)), (TOP, -1, TOP), (minus(7), -2, 3), (minus(7), 0, 0)], 1)
        self.check_src(0x3C, [(TOP32, MAX32, TOP32), (TOP32, MAX, TOP32), (minus(7), 2, minus(3, 32)),
                              (minus(7, 32), 2, minus(3, 32)), (7, 1 << 32, 0), (MAX32, 2, 0)], 1)
        self.check_imm(0x34, [(TOP32, -1, TOP32), (minus(7, 32), -2, 3), (7, -2, minus(3, 32)), (7, 0, 0)], 1)

    def test_mod(self):
        self.check_src(0x9F, [(7, 2, 1), (7, 0, 7), (MAX, 0, MAX), (MAX, MAX, 0), (5, MAX, 5), (MAX, 10, 5)])
        self.check_imm(0x97, [(7, 0, 7), (5, -1, 5), (MAX, -1, 0)])
        self.check_src(0x9C, [(MAX, 0, MAX32), (MAX, 1 << 32, MAX32), ((1 << 32) + 7, 4, 3), (5, MAX, 5)])
        self.check_imm(0x94, [(MAX, 0, MAX32), (1 << 32, 0, 0), (5, -1, 5), (MAX, -1, 0)])

    def test_mod_signed(self):
        self.check_src(0x9F, [(7, 3, 1), (minus(7), 3, minus(1)), (7, minus(3), 1), (minus(7), minus(3), minus(1)),
                              (TOP, MAX, 0), (minus(5), 0, minus(5)), (minus(6), 3, 0), (5, TOP, 5), (MAX, 2, MAX)], 1)
        self.check_imm(0x97, [(minus(7), 3, minus(1)), (7, -3, 1), (TOP, -1, 0), (minus(5), 0, minus(5))], 1)
        self.check_src(0x9C, [(TOP32, MAX32, 0), (minus(7), 3, minus(1, 32)), (minus(7), 1 << 32, minus(7, 32))], 1)
        self.check_imm(0x94, [(minus(7, 32), 3, minus(1, 32)), (TOP32, -1, 0), (MAX, 0, MAX32), (7, -3, 1)], 1)

    def test_or_and_xor(self):
        self.check_src(0x4F, [(0b1100, 0b1010, 0b1110), (TOP, 1, TOP + 1)])
        self.check_src(0x5F, [(0b1100, 0b1010, 0b1000), (MAX, TOP, TOP)])
        self.check_src(0xAF, [(0b1100, 0b1010, 0b0110), (MAX, MAX, 0)])
        self.check_imm(0x47, [(0, -1, MAX), (1, 2, 3)])
        self.check_imm(0x57, [(MAX, -1, MAX), (MAX, -2, MAX - 1), (7, 12, 4)])
        self.check_imm(0xA7, [(MAX, -1, 0), (0, -1, MAX)])
        self.check_src(0x4C, [(1 << 32, 1, 1)])
        self.check_src(0x5C, [(MAX, MAX, MAX32)])
        self.check_src(0xAC, [(MAX, 1, MAX32 - 1)])
        self.check_imm(0x44, [(0, -1, MAX32)])
        self.check_imm(0x54, [(MAX, -1, MAX32)])
        self.check_imm(0xA4, [(0, -1, MAX32), (MAX, 0, MAX32)])

    def test_shifts(self):
        self.check_src(0x6F, [(1, 63, TOP), (1, 64, 1), (3, 63, TOP), (1, MAX, TOP), (5, 0, 5), (1, 32, 1 << 32)])
        self.check_imm(0x67, [(1, 63, TOP), (1, 64, 1), (1, -1, TOP), (1, 65, 2)])
        self.check_src(0x6C, [(1, 31, TOP32), (1, 32, 1), (3, 31, TOP32), ((1 << 32) + 1, 1, 2), (1, MAX, TOP32)])
        self.check_imm(0x64, [(1, 31, TOP32), (1, 32, 1), (1, -1, TOP32), (1, 33, 2)])
        self.check_src(0x7F, [(TOP, 63, 1), (MAX, 1, TOP - 1), (MAX, 64, MAX), (1, 1, 0)])
        self.check_imm(0x77, [(TOP, 63, 1), (MAX, -1, 1), (MAX, 64, MAX)])
        self.check_src(0x7C, [(MAX, 31, 1), (1 << 32, 1, 0), (MAX, 32, MAX32)])
        self.check_imm(0x74, [(TOP, 1, 0), (MAX32, 31, 1), (MAX, -1, 1)])
        self.check_src(0xCF, [(MAX, 63, MAX), (TOP, 63, MAX), (TOP - 1, 62, 1), (TOP, 1, TOP + (TOP >> 1))])
        self.check_imm(0xC7, [(MAX, 63, MAX), (TOP, 64, TOP), (minus(5), 1, minus(3)), (5, 1, 2)])
        self.check_src(0xCC, [(TOP32, 31, MAX32), (TOP, 1, 0), (MAX32, 32, MAX32), (TOP32 - 1, 1, (1 << 30) - 1)])
        self.check_imm(0xC4, [(TOP32, 1, TOP32 + (TOP32 >> 1)), (MAX, 1, MAX32), (TOP32 - 1, -1, 0)])

    def test_shifts_by_many(self):
        for bits, group in ((64, 7), (32, 4)):
            for number in (1, 5, TOP32, MAX32, MAX32 - 2, TOP, TOP + TOP32 + 3, MAX):
                low = number % 2 ** bits
                sign = low - 2 ** bits if low >= 2 ** (bits - 1) else low
                for by in (0, 1, 30, 31, 32, 33, 62, 63, 64, 65, 95, 96, 127, 128, 1000):
                    times = 2 ** (by % bits)
                    for op, expected in ((6, low * times), (7, low // times), (12, sign // times)):
                        rows = [(number, by, expected % 2 ** bits)]
                        self.check_imm(16 * op + group, rows)
                        self.check_src(16 * op + 8 + group, rows)

    def test_neg(self):
        for code, rows in ((0x87, [(0, 0), (1, MAX), (TOP, TOP), (MAX, 1)]),
                           (0x84, [(0, 0), (1, MAX32), (TOP32, TOP32), (MAX, 1), (1 << 32, 0),
                                   ((1 << 32) + 1, MAX32)])):
            self.check_imm(code, [(dst, 0, expected) for dst, expected in rows])

    def test_mov(self):
        self.check_src(0xBF, [(1, MAX, MAX), (MAX, 0, 0)])
        self.check_imm(0xB7, [(1, -1, MAX), (1, 5, 5), (1, -TOP32, minus(TOP32))])
        self.check_src(0xBC, [(1, MAX, MAX32), (1, 1 << 32, 0)])
        self.check_imm(0xB4, [(1, -1, MAX32), (1, 5, 5)])

    def test_mov_with_sign(self):
        self.check_src(0xBF, [(1, 0x7F, 0x7F), (1, 0x80, minus(0x80)), (1, 0xFF, MAX), (1, 0x17F, 0x7F)], 8)
        self.check_src(0xBF, [(1, 0x7FFF, 0x7FFF), (1, 0x8000, minus(0x8000)), (1, 0x10000, 0)], 16)
        self.check_src(0xBF, [(1, TOP32 - 1, TOP32 - 1), (1, TOP32, minus(TOP32)), (1, 1 << 32, 0)], 32)
        self.check_src(0xBC, [(1, 0x7F, 0x7F), (1, 0x80, minus(0x80, 32)), (1, MAX - 255, 0)], 8)
        self.check_src(0xBC, [(1, 0x7FFF, 0x7FFF), (1, 0x8000, minus(0x8000, 32)), (1, 0x18000, minus(0x8000, 32))], 16)

    def test_one_register(self):
        self.check_itself(0x0F, [(5, 10), (MAX, MAX - 1), (TOP, 0)])
        self.check_itself(0x0C, [(MAX, MAX32 - 1), (TOP32, 0)])
        self.check_itself(0x1F, [(5, 0), (MAX, 0)])
        self.check_itself(0x1C, [(MAX, 0)])
        self.check_itself(0x2F, [(MAX, 1), (1 << 32, 0), (7, 49)])
        self.check_itself(0x2C, [(MAX, 1), (1 << 16, 0)])
        for off in (0, 1):
            self.check_itself(0x3F, [(0, 0), (MAX, 1), (TOP, 1)], off)
            self.check_itself(0x3C, [(0, 0), (1 << 32, 0), (MAX, 1), (TOP32, 1)], off)
            self.check_itself(0x9F, [(0, 0), (MAX, 0), (TOP, 0)], off)
            self.check_itself(0x9C, [(0, 0), (1 << 32, 0), (MAX, 0)], off)
        self.check_itself(0x4F, [(MAX, MAX)])
        self.check_itself(0x4C, [(MAX, MAX32)])
        self.check_itself(0x5F, [(TOP, TOP)])
        self.check_itself(0x5C, [(TOP, 0)])
        self.check_itself(0xAF, [(MAX, 0)])
        self.check_itself(0xAC, [(MAX, 0)])
        self.check_itself(0x6F, [(3, 24), (64, 64), (65, 130), (MAX, TOP)])
        self.check_itself(0x6C, [(3, 24), (32, 32), (33, 66), (MAX, TOP32)])
        self.check_itself(0x7F, [(MAX, 1), (64, 64), (65, 32), (TOP, TOP)])
        self.check_itself(0x7C, [(MAX, 1), (32, 32), (33, 16), (TOP32, TOP32)])
        self.check_itself(0xCF, [(MAX, MAX), (TOP, TOP), (TOP + 1, TOP + (TOP >> 1)), (65, 32)])
        self.check_itself(0xCC, [(MAX, MAX32), (TOP32, TOP32), (TOP32 + 1, TOP32 + (TOP32 >> 1)), (33, 16)])
        self.check_itself(0xBF, [(MAX, MAX)])
        self.check_itself(0xBC, [(MAX, MAX32)])
        self.check_itself(0xBF, [(0x180, minus(0x80)), (0x17F, 0x7F)], 8)
        self.check_itself(0xBC, [(0x180, minus(0x80, 32)), (MAX, MAX32)], 8)

    def test_swap(self):
        number = 0x0123456789ABCDEF
        self.check_imm(0xD7, [(number, 16, 0xEFCD), (number, 32, 0xEFCDAB89), (number, 64, 0xEFCDAB8967452301)])
        self.check_imm(0xDC, [(number, 16, 0xEFCD), (number, 32, 0xEFCDAB89), (number, 64, 0xEFCDAB8967452301)])
        self.check_imm(0xD4, [(number, 16, 0xCDEF), (number, 32, 0x89ABCDEF), (number, 64, number)])

    def test_swap_goes_by_dst_alone(self):
        # Its src is 0, but register 0 is no matter, be it any or an address.
        for row in (ins(0x85), ins(0xBF, 0, 10)):
            for code, number in ((0xD7, 0x3412), (0xD4, 0x1234), (0xDC, 0x3412)):
                rows = load(row, wide(3, 0x1234), ins(code, 3, imm=16), END)
                self.assertEqual(ask(rows, judge(0), tell(4, 3))[2], [0, number, number])
                self.assertEqual(ask(rows, run(), reg(3))[2], [number])

    def test_neg_goes_by_dst_alone(self):
        for row in (ins(0x85), ins(0xBF, 0, 10)):
            rows = load(row, wide(3, 5), ins(0x87, 3), END)
            self.assertEqual(ask(rows, judge(0), tell(4, 3))[2], [0, minus(5), minus(5)])
            self.assertEqual(ask(rows, run(), reg(3))[2], [minus(5)])

    def test_wide(self):
        for number in (0, 1, TOP32, MAX32, 1 << 32, TOP, MAX, 0x0123456789ABCDEF):
            found = ask(load(wide(7, number), END), judge(0), tell(2, 7), tell(1, 7))
            self.assertEqual(found[2:], [[0, number, number], [-1]])
            self.assertEqual(run_alone([wide(3, MAX - number), wide(3, number), END]), number)


if __name__ == "__main__":
    unittest.main()
