"""Ranges of more than one number, and of addresses, through the operations of classes 7 and 4."""

import unittest

from tests.helper import ANY, HALF, LOW, WORD, after, ins

MAX = WORD - 1
TOP = 1 << 63
MAX32 = HALF - 1
TOP32 = 1 << 31
EDGE = 1 << 20


class SpanTest(unittest.TestCase):
    def check(self, code, rows, off=0):
        """Rows of dst and x, lo and hi each, and the range that dst becomes; x one number: an imm."""
        for dst, x, expected in rows:
            if isinstance(x, int):
                found = after(ins(code, 3, off=off, imm=x), (0,) + dst)
            else:
                found = after(ins(code, 3, 4, off), (0,) + dst, (0,) + x)
            expected = list(expected) if len(expected) == 3 else [0] + list(expected)
            self.assertEqual(found, expected, (hex(code), dst, x))


class NumberTest(SpanTest):
    def test_add(self):
        self.check(0x0F, [((1, 5), (10, 20), (11, 25)), ((5, 5), (10, 20), (15, 25)), ((1, 5), (7, 7), (8, 12)),
                          ((1, MAX - 20), (10, 20), (11, MAX)), ((1, MAX - 19), (10, 20), ANY),
                          ((0, TOP), (0, TOP - 1), (0, MAX)), ((0, TOP), (0, TOP), ANY)])
        self.check(0x07, [((1, 5), 10, (11, 15)), ((1, 5), -1, ANY), ((0, 1), -1, ANY)])

    def test_add_32(self):
        self.check(0x0C, [((1, 5), (10, 20), (11, 25)), ((1, MAX32 - 20), (10, 20), (11, MAX32)),
                          ((1, MAX32 - 19), (10, 20), LOW), ((1, HALF), (1, 2), LOW), ((1, 2), (1, HALF), LOW),
                          ((1, MAX32), (0, 0), (1, MAX32)), ((1, HALF), (0, 0), LOW), ((HALF, HALF), (0, 1), LOW),
                          ((0, 1), (HALF, HALF), LOW)])
        self.check(0x04, [((1, 5), 10, (11, 15)), ((1, 5), -1, LOW), ((0, 1), -2, (MAX32 - 1, MAX32))])

    def test_sub(self):
        self.check(0x1F, [((20, 30), (1, 5), (15, 29)), ((5, 30), (1, 5), (0, 29)), ((4, 30), (1, 5), ANY),
                          ((5, 5), (1, 5), (0, 4)), ((20, MAX), (20, 20), (0, MAX - 20))])
        self.check(0x17, [((20, 30), 20, (0, 10)), ((20, 30), 21, ANY), ((20, 30), -1, ANY), ((20, 30), 0, (20, 30))])

    def test_sub_32(self):
        self.check(0x1C, [((20, 30), (1, 5), (15, 29)), ((5, 30), (1, 5), (0, 29)), ((4, 30), (1, 5), LOW),
                          ((20, HALF), (1, 2), LOW), ((20, MAX32), (1, 2), (18, MAX32 - 1)),
                          ((HALF, HALF + 1), (0, 0), LOW), ((MAX32, MAX32), (5, HALF), LOW)])
        self.check(0x14, [((20, 30), 20, (0, 10)), ((20, 30), 21, LOW), ((20, 30), -1, LOW)])

    def test_mul(self):
        self.check(0x2F, [((2, 3), (5, 7), (10, 21)), ((0, HALF), (0, MAX32), (0, HALF * MAX32)),
                          ((0, HALF), (1, HALF), ANY), ((0, MAX), (1, 1), (0, MAX)), ((0, TOP), (2, 2), ANY),
                          ((0, TOP - 1), (2, 2), (0, MAX - 1)), ((0, MAX), (0, 0), (0, 0))])
        self.check(0x27, [((2, 3), 5, (10, 15)), ((2, 3), -1, ANY), ((0, 1), -1, (0, MAX))])

    def test_mul_32(self):
        self.check(0x2C, [((2, 3), (5, 7), (10, 21)), ((0, 65536), (0, 65535), (0, 65536 * 65535)),
                          ((0, 65536), (0, 65536), LOW), ((0, HALF), (1, 1), LOW), ((0, MAX32), (1, 1), (0, MAX32)),
                          ((2, 3), (HALF, HALF), LOW), ((2, 3), (0, 0), (0, 0)), ((0, HALF), (0, 0), (0, 0))])
        self.check(0x24, [((2, 3), 5, (10, 15)), ((2, 3), -1, LOW), ((0, 1), -1, (0, MAX32))])

    def test_div(self):
        self.check(0x3F, [((10, 21), (2, 3), (3, 10)), ((10, 21), (0, 3), (0, 21)), ((10, 21), (0, 0), (0, 21)),
                          ((10, 21), (1, 30), (0, 21)), ((0, MAX), (1, MAX), (0, MAX)), ((7, 7), (2, 3), (2, 3)),
                          ((10, 21), (1, 2), (5, 21)), ((10, 21), (1, 1), (10, 21))])
        self.check(0x37, [((10, 21), 0, (0, 21)), ((10, 21), 3, (3, 7)), ((10, MAX), -1, (0, 1))])

    def test_div_32(self):
        self.check(0x3C, [((10, 21), (2, 3), (3, 10)), ((10, 21), (0, 3), (0, 21)),
                          ((10, HALF), (2, 3), (0, MAX32 // 2)),
                          ((10, 21), (2, HALF), (0, 21)), ((10, 21), (HALF + 1, HALF + 1), (0, 21))])
        self.check(0x34, [((10, 21), 0, (0, 21)), ((10, MAX), -1, (0, 1)), ((10, MAX), 1, LOW),
                          ((10, MAX), 2, (0, TOP32 - 1))])

    def test_mod(self):
        self.check(0x9F, [((10, 21), (2, 3), (0, 2)), ((10, 21), (2, 100), (0, 21)), ((10, 21), (22, 30), (10, 21)),
                          ((10, 21), (21, 30), (0, 21)), ((10, 21), (0, 3), (0, 21)), ((10, 21), (0, 0), (0, 21)),
                          ((10, 10), (5, 6), (0, 5)), ((10, 10), (11, 12), (10, 10)), ((10, 21), (1, 1), (0, 0)),
                          ((10, 21), (10, 20), (0, 19))])
        self.check(0x97, [((10, 21), 0, (0, 21)), ((10, 21), 22, (10, 21)), ((10, 21), 21, (0, 20)),
                          ((10, 21), -1, (10, 21)), ((10, MAX), -1, (0, MAX - 1))])

    def test_mod_32(self):
        self.check(0x9C, [((10, 21), (2, 3), (0, 2)), ((10, 21), (22, 30), (10, 21)), ((10, 21), (0, 3), (0, 21)),
                          ((10, HALF), (2, 3), (0, 2)), ((10, HALF), (0, 3), LOW), ((10, 21), (22, HALF), (0, 21)),
                          ((10, MAX32), (0, 3), (0, MAX32))])
        self.check(0x94, [((10, 21), -1, (10, 21)), ((10, HALF), -1, (0, MAX32 - 1)), ((10, 21), 0, (0, 21))])

    def test_signed_of_more_than_one_number(self):
        for code, expected in ((0x3F, ANY), (0x9F, ANY), (0x3C, LOW), (0x9C, LOW)):
            self.check(code, [((10, 21), (2, 3), expected), ((10, 21), (3, 3), expected), ((9, 9), (2, 3), expected)],
                       1)
        for code, expected in ((0x37, ANY), (0x97, ANY), (0x34, LOW), (0x94, LOW)):
            self.check(code, [((10, 21), 3, expected), ((10, 21), 0, expected)], 1)

    def test_and(self):
        self.check(0x5F, [((10, 21), (5, 300), (0, 21)), ((10, 300), (5, 21), (0, 21)), ((0, MAX), (0, MAX), ANY)])
        self.check(0x57, [((10, MAX), 255, (0, 255)), ((10, 21), -1, (0, 21)), ((10, MAX), -1, (0, MAX)),
                          ((10, 21), 0, (0, 0))])
        self.check(0x5C, [((10, 21), (5, 300), (0, 21)), ((10, HALF), (5, 300), (0, 300)),
                          ((10, HALF), (5, HALF), LOW)])
        self.check(0x54, [((10, MAX), -1, LOW), ((10, MAX), -2, (0, MAX32 - 1)), ((10, MAX), 255, (0, 255))])

    def test_or_and_xor(self):
        for code in (0x4F, 0xAF):
            self.check(code, [((0, 7), (0, 7), (0, 7)), ((0, 7), (0, 8), (0, 15)), ((0, 8), (0, 7), (0, 15)),
                              ((0, 1), (0, 0), (0, 1)), ((0, 15), (3, 3), (0, 15)), ((0, TOP), (0, 1), ANY),
                              ((0, TOP - 1), (0, 1), (0, TOP - 1)), ((4, 6), (4, 6), (0, 7)),
                              ((16, 16), (0, 1), (0, 31))])
        for code in (0x47, 0xA7):
            self.check(code, [((0, 7), -1, ANY), ((0, 7), 8, (0, 15)), ((4, 5), 0, (0, 7))])
        for code in (0x4C, 0xAC):
            self.check(code, [((0, 7), (0, 8), (0, 15)), ((0, TOP32), (0, 1), LOW),
                              ((0, TOP32 - 1), (0, 1), (0, TOP32 - 1)),
                              ((0, HALF), (0, 1), LOW), ((0, 1), (HALF, HALF), LOW)])
        for code in (0x44, 0xA4):
            self.check(code, [((0, 7), -1, LOW), ((0, 7), 8, (0, 15))])

    def test_left(self):
        self.check(0x6F, [((1, 3), (4, 4), (16, 48)), ((1, 3), (4, 5), ANY), ((1, 1), (4, 5), ANY),
                          ((1, 3), (64, 64), (1, 3)),
                          ((1, 3), (62, 62), (1 << 62, 3 << 62)), ((1, 3), (63, 63), ANY), ((1, 3), (MAX, MAX), ANY),
                          ((0, 1), (63, 63), (0, TOP)), ((0, TOP), (1, 1), ANY), ((0, TOP - 1), (1, 1), (0, MAX - 1))])
        self.check(0x67, [((1, 3), 4, (16, 48)), ((1, 3), 68, (16, 48)), ((1, 3), -62, (4, 12)),
                          ((0, 1), -1, (0, TOP))])

    def test_left_32(self):
        self.check(0x6C, [((1, 3), (4, 4), (16, 48)), ((1, 3), (32, 32), (1, 3)),
                          ((1, 3), (30, 30), (1 << 30, 3 << 30)),
                          ((1, 3), (31, 31), LOW), ((1, 3), (4, 5), LOW), ((1, 3), (HALF, HALF), LOW),
                          ((1, HALF), (1, 1), LOW),
                          ((0, TOP32 - 1), (1, 1), (0, MAX32 - 1)), ((0, TOP32), (1, 1), LOW),
                          ((0, HALF), (0, 0), LOW)])
        self.check(0x64, [((1, 3), 36, (16, 48)), ((0, 1), -1, (0, TOP32)), ((1, 3), 64, (1, 3))])

    def test_right(self):
        self.check(0x7F, [((17, 48), (4, 4), (1, 3)), ((17, 48), (4, 5), ANY), ((17, 17), (4, 5), ANY),
                          ((1, MAX), (63, 63), (0, 1)),
                          ((1, MAX), (64, 64), (1, MAX)), ((1, MAX), (MAX, MAX), (0, 1))])
        self.check(0x77, [((17, 48), 4, (1, 3)), ((17, 48), 68, (1, 3)), ((0, MAX), -1, (0, 1)),
                          ((0, MAX), 1, (0, TOP - 1))])
        self.check(0x7C, [((17, 48), (4, 4), (1, 3)), ((17, 48), (4, 5), LOW), ((17, HALF), (4, 4), (0, MAX32 >> 4)),
                          ((17, 48), (HALF, HALF), LOW), ((1, MAX32), (32, 32), (1, MAX32)),
                          ((1, MAX32), (31, 31), (0, 1))])
        self.check(0x74, [((17, 48), 36, (1, 3)), ((17, MAX), -1, (0, 1)), ((17, MAX), 1, (0, TOP32 - 1))])

    def test_right_with_sign(self):
        self.check(0xCF, [((17, 48), (4, 4), (1, 3)), ((17, 48), (4, 5), ANY), ((1, TOP - 1), (62, 62), (0, 1)),
                          ((1, TOP), (62, 62), ANY), ((1, TOP), (0, 0), ANY), ((1, TOP - 1), (64, 64), (1, TOP - 1))])
        self.check(0xC7, [((17, 48), 4, (1, 3)), ((17, TOP - 1), -1, (0, 0)), ((17, TOP), 1, ANY)])
        self.check(0xCC, [((17, 48), (4, 4), (1, 3)), ((17, 48), (4, 5), LOW), ((1, TOP32 - 1), (30, 30), (0, 1)),
                          ((1, TOP32), (30, 30), LOW), ((17, 48), (HALF, HALF), LOW), ((0, HALF), (1, 1), LOW)])
        self.check(0xC4, [((17, 48), 36, (1, 3)), ((17, TOP32 - 1), -1, (0, 0)), ((17, TOP32), 1, LOW)])

    def test_neg(self):
        self.check(0x87, [((1, 2), 0, ANY), ((0, 1), 0, ANY)])
        self.check(0x84, [((1, 2), 0, LOW), ((0, MAX), 0, LOW)])

    def test_mov(self):
        self.check(0xBF, [((1, 2), (5, 6), (5, 6)), ((1, 2), (5, 5), (5, 5)), ((1, 1), (0, MAX), ANY)])
        self.check(0xB7, [((1, 2), 5, (5, 5)), ((1, 2), -1, (MAX, MAX))])
        self.check(0xBC, [((1, 2), (5, 6), (5, 6)), ((1, 2), (5, MAX32), (5, MAX32)), ((1, 2), (5, HALF), LOW),
                          ((1, 2), (HALF + 5, HALF + 5), (5, 5)), ((1, 2), (HALF + 5, HALF + 6), LOW)])
        self.check(0xB4, [((1, 2), -1, (MAX32, MAX32)), ((1, MAX), 7, (7, 7))])

    def test_mov_with_sign(self):
        for width in (8, 16, 32):
            sign = 1 << (width - 1)
            self.check(0xBF, [((1, 2), (5, sign - 1), (5, sign - 1)), ((1, 2), (5, sign), ANY),
                              ((1, 2), (0, 2 * sign - 1), ANY)], width)
        for width in (8, 16):
            sign = 1 << (width - 1)
            self.check(0xBC, [((1, 2), (5, sign - 1), (5, sign - 1)), ((1, 2), (5, sign), LOW),
                              ((1, 2), (HALF, HALF + 1), LOW)], width)

    def test_swap(self):
        for code in (0xD7, 0xD4, 0xDC):
            for bits in (16, 32, 64):
                self.check(code, [((1, 2), bits, (0, (1 << bits) - 1)), ((0, MAX), bits, (0, (1 << bits) - 1))])


class AddressTest(unittest.TestCase):
    def check(self, code, rows, off=0):
        """Rows of dst and x, kind, lo and hi each, and the range that dst becomes; x one number: an imm."""
        for dst, x, expected in rows:
            if isinstance(x, int):
                found = after(ins(code, 3, off=off, imm=x), dst)
            else:
                found = after(ins(code, 3, 4, off), dst, x)
            self.assertEqual(found, list(expected), (hex(code), dst, x))

    def test_mov_keeps_kinds(self):
        self.check(0xBF, [((0, 1, 2), (1, 3, 9), (1, 3, 9)), ((0, 1, 2), (2, 8, 8), (2, 8, 8)),
                          ((1, 1, 2), (2, 8, 8), (2, 8, 8)), ((1, 1, 2), (0, 3, 9), (0, 3, 9)),
                          ((2, 1, 1), (0, 3, 3), (0, 3, 3))])
        self.check(0xB7, [((1, 1, 2), 5, (0, 5, 5)), ((2, 5, 5), 5, (0, 5, 5))])

    def test_mov_with_sign_does_not(self):
        for width in (8, 16, 32):
            self.check(0xBF, [((0, 1, 2), (1, 3, 9), ANY), ((0, 1, 2), (2, 8, 8), ANY)], width)
            self.check(0xBF, [((1, 1, 2), (0, 3, 9), (0, 3, 9))], width)

    def test_data_plus_number(self):
        self.check(0x0F, [((1, 0, 0), (0, 5, 9), (1, 5, 9)), ((0, 5, 9), (1, 1, 2), (1, 6, 11)),
                          ((1, 1, 2), (0, 5, 5), (1, 6, 7)),
                          ((1, 0, 1), (0, 0, EDGE - 1), (1, 0, EDGE)), ((1, 0, 1), (0, 0, EDGE), ANY),
                          ((0, 0, EDGE), (1, 0, 0), (1, 0, EDGE)), ((0, 0, EDGE), (1, 0, 1), ANY),
                          ((1, 0, 0), (0, EDGE, EDGE), (1, EDGE, EDGE)), ((1, 0, 0), (0, EDGE + 1, EDGE + 1), ANY),
                          ((1, 5, 5), (0, MAX, MAX), ANY)])
        self.check(0x07, [((1, 1, 2), 5, (1, 6, 7)), ((1, 1, 2), -1, ANY), ((1, 1, 2), EDGE - 2, (1, EDGE - 1, EDGE)),
                          ((1, 1, 2), EDGE - 1, ANY), ((1, 1, 2), 0, (1, 1, 2))])

    def test_data_less_number(self):
        self.check(0x1F, [((1, 10, 20), (0, 3, 5), (1, 5, 17)), ((1, 10, 20), (0, 3, 10), (1, 0, 17)),
                          ((1, 10, 20), (0, 3, 11), ANY), ((1, 10, 20), (0, 10, 10), (1, 0, 10)),
                          ((0, 10, 20), (1, 1, 2), ANY),
                          ((1, 10, 20), (0, MAX, MAX), ANY), ((1, 0, 0), (0, 0, 0), (1, 0, 0))])
        self.check(0x17, [((1, 10, 20), 10, (1, 0, 10)), ((1, 10, 20), 11, ANY), ((1, 10, 20), -1, ANY)])

    def test_stack_plus_and_less_one_number(self):
        self.check(0x07, [((2, 512, 512), -8, (2, 504, 504)), ((2, 512, 512), -512, (2, 0, 0)),
                          ((2, 512, 512), -513, ANY),
                          ((2, 512, 512), 1, ANY), ((2, 0, 0), 512, (2, 512, 512)), ((2, 0, 0), 513, ANY),
                          ((2, 0, 0), -1, ANY)])
        self.check(0x17, [((2, 512, 512), 8, (2, 504, 504)), ((2, 512, 512), 513, ANY),
                          ((2, 0, 0), -512, (2, 512, 512)),
                          ((2, 0, 0), -513, ANY), ((2, 0, 0), 1, ANY)])
        self.check(0x0F, [((2, 512, 512), (0, MAX - 7, MAX - 7), (2, 504, 504)), ((2, 8, 8), (0, 8, 8), (2, 16, 16)),
                          ((2, 8, 8), (0, 8, 9), ANY), ((0, 8, 8), (2, 8, 8), ANY), ((2, 8, 8), (0, TOP, TOP), ANY)])
        self.check(0x1F, [((2, 8, 8), (0, MAX - 7, MAX - 7), (2, 16, 16)), ((2, 8, 8), (0, 8, 8), (2, 0, 0)),
                          ((2, 8, 8), (0, 8, 9), ANY), ((0, 8, 8), (2, 8, 8), ANY), ((2, 8, 8), (0, TOP, TOP), ANY)])

    def test_two_addresses(self):
        for code in (0x0F, 0x1F):
            for kind in (1, 2):
                for other in (1, 2):
                    self.check(code, [((kind, 8, 8), (other, 8, 8), ANY)])

    def test_all_else_is_any(self):
        for code in (0x2F, 0x3F, 0x4F, 0x5F, 0x6F, 0x7F, 0x9F, 0xAF, 0xCF):
            for kind in (1, 2):
                self.check(code, [((kind, 8, 8), (0, 0, 0), ANY), ((0, 0, 0), (kind, 8, 8), ANY),
                                  ((kind, 8, 8), (kind, 8, 8), ANY)])
        for code in (0x27, 0x37, 0x47, 0x57, 0x67, 0x77, 0x97, 0xA7, 0xC7):
            self.check(code, [((1, 8, 8), 0, ANY), ((2, 8, 8), 1, ANY)])
        for code in (0x37, 0x97):
            self.check(code, [((1, 8, 8), 1, ANY), ((2, 8, 8), 1, ANY)], 1)
        self.check(0x87, [((1, 8, 8), 0, ANY), ((2, 8, 8), 0, ANY)])

    def test_class_four_takes_them_as_any_32_bits(self):
        for kind in (1, 2):
            address = (kind, 8, 8)
            self.check(0x04, [(address, 0, LOW), (address, 1, LOW)])
            self.check(0x14, [(address, 0, LOW)])
            self.check(0x54, [(address, 255, (0, 0, 255))])
            self.check(0x74, [(address, 4, (0, 0, MAX32 >> 4))])
            self.check(0x94, [(address, 10, (0, 0, 9))])
            self.check(0x34, [(address, 2, (0, 0, MAX32 >> 1))])
            self.check(0x84, [(address, 0, LOW)])
            self.check(0xBC, [((0, 1, 1), address, LOW)])
            self.check(0xBC, [((0, 1, 1), address, LOW)], 8)
            self.check(0xB4, [(address, 5, (0, 5, 5))])
            self.check(0x0C, [((0, 1, 1), address, LOW), (address, address, LOW)])
            self.check(0x5C, [((0, 9, 9), address, (0, 0, 9))])
            self.check(0x2C, [((0, 0, 0), address, (0, 0, 0))])

    def test_swap_of_an_address(self):
        for code in (0xD7, 0xD4, 0xDC):
            for kind in (1, 2):
                for bits in (16, 32, 64):
                    self.check(code, [((kind, 8, 8), bits, (0, 0, (1 << bits) - 1))])


class SameRegisterTest(unittest.TestCase):
    def test_rules_see_no_sameness(self):
        self.assertEqual(after(ins(0x1F, 3, 3), (0, 1, 5)), ANY)
        self.assertEqual(after(ins(0xAF, 3, 3), (0, 1, 5)), [0, 0, 7])
        self.assertEqual(after(ins(0x0F, 3, 3), (0, 1, 5)), [0, 2, 10])
        self.assertEqual(after(ins(0x1F, 3, 3), (1, 1, 1)), ANY)
        self.assertEqual(after(ins(0x1F, 3, 3), (0, 7, 7)), [0, 0, 0])

    def test_x_is_left_as_it_was(self):
        self.assertEqual(after(ins(0x0F, 4, 3), (0, 1, 5), (0, 2, 3)), [0, 1, 5])


if __name__ == "__main__":
    unittest.main()
