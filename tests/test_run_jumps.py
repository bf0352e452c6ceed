"""Runs: which way is gone at a comparison, and where jumps lead."""

import unittest

from tests.helper import END, ins, ran, wide

MAX = (1 << 64) - 1
TOP = 1 << 63
MAX32 = (1 << 32) - 1
TOP32 = 1 << 31
UPPER = 0xABCD << 40
# Ways without sign and with it, each with what it says of a number that's less, equal, greater.
WITHOUT_SIGN = {1: (0, 1, 0), 2: (0, 0, 1), 3: (0, 1, 1), 5: (1, 0, 1), 10: (1, 0, 0), 11: (1, 1, 0)}
WITH_SIGN = {6: (0, 0, 1), 7: (0, 1, 1), 12: (1, 0, 0), 13: (1, 1, 0)}
# From the least to the greatest.
PLAIN64 = [0, 1, TOP32 - 1, TOP32, MAX32, MAX32 + 1, TOP - 1, TOP, TOP + 1, MAX - 1, MAX]
SIGNED64 = [TOP, TOP + 1, MAX - TOP32, MAX - 1, MAX, 0, 1, TOP32, MAX32, TOP - 1]
PLAIN32 = [0, 1, TOP32 - 1, TOP32, TOP32 + 1, MAX32 - 1, MAX32]
SIGNED32 = [TOP32, TOP32 + 1, MAX32 - 1, MAX32, 0, 1, TOP32 - 1]
# x as imm, from the least to the greatest, each of them as a number of 64 and of 32 bits.
IMMS = [-TOP32, -TOP32 + 1, -2, -1, 0, 1, TOP32 - 1]


def is_gone(row, dst, x=0):
    """Whether a jump over one instruction is gone; nothing but the place may change by it."""
    row = row[:2] + [1, 0] + row[4:]
    found = ran([wide(3, dst), wide(4, x), row, ins(0xB7, 0, imm=7), END])
    assert found.end() == (0, -1), found.end()
    others = [1 << 32, 0, dst, x, 0, 0, 0, 0, 0, 1 << 33]
    assert found.regs[1:] == others and found.regs[0] in (0, 7), found.regs
    return found.regs[0] == 0


class ComparisonTest(unittest.TestCase):
    def check(self, group, table, numbers, upper=0):
        """Each number against each, in all ways of a table; what stands above a half is no matter."""
        for op, says in table.items():
            for one, dst in enumerate(numbers):
                for other, x in enumerate(numbers):
                    expected = says[(one >= other) + (one > other)] == 1
                    found = is_gone(ins(16 * op + 8 + group, 3, 4), dst + upper, x)
                    self.assertEqual(found, expected, (group, op, hex(dst), hex(x)))

    def check_imm(self, group, table, places):
        modulus = 1 << (64 if group == 5 else 32)
        numbers = [imm % modulus for imm in IMMS]
        for op, says in table.items():
            for dst in numbers:
                for imm in IMMS:
                    one, other = places.index(dst), places.index(imm % modulus)
                    expected = says[(one >= other) + (one > other)] == 1
                    found = is_gone(ins(16 * op + group, 3, imm=imm), dst)
                    self.assertEqual(found, expected, (group, op, hex(dst), imm))

    def test_without_sign(self):
        self.check(5, WITHOUT_SIGN, PLAIN64)

    def test_with_sign(self):
        self.check(5, WITH_SIGN, SIGNED64)

    def test_lower_half_without_sign(self):
        self.check(6, WITHOUT_SIGN, PLAIN32)
        self.check(6, WITHOUT_SIGN, PLAIN32, UPPER)

    def test_lower_half_with_sign(self):
        self.check(6, WITH_SIGN, SIGNED32)
        self.check(6, WITH_SIGN, SIGNED32, TOP)

    def test_imm(self):
        plain = sorted(imm % (1 << 64) for imm in IMMS)
        signed = [imm % (1 << 64) for imm in IMMS]
        self.check_imm(5, WITHOUT_SIGN, plain)
        self.check_imm(5, WITH_SIGN, signed)

    def test_imm_of_the_lower_half(self):
        plain = sorted(imm % (1 << 32) for imm in IMMS)
        signed = [imm % (1 << 32) for imm in IMMS]
        self.check_imm(6, WITHOUT_SIGN, plain)
        self.check_imm(6, WITH_SIGN, signed)

    def test_imm_is_extended(self):
        # -1 is all ones of 64 bits, not of 32.
        self.assertFalse(is_gone(ins(0x15, 3, imm=-1), MAX32))
        self.assertTrue(is_gone(ins(0x15, 3, imm=-1), MAX))
        self.assertTrue(is_gone(ins(0x16, 3, imm=-1), MAX32))
        self.assertTrue(is_gone(ins(0x16, 3, imm=-1), MAX))
        self.assertTrue(is_gone(ins(0x45, 3, imm=-TOP32), TOP))
        self.assertFalse(is_gone(ins(0x46, 3, imm=-TOP32), TOP))

    def test_bits_in_common(self):
        for dst, x, wide_says, half_says in ((1, 1, True, True), (1, 2, False, False), (6, 3, True, True),
                                             (TOP, TOP, True, False), (MAX, 0, False, False), (0, MAX, False, False),
                                             (TOP32, MAX, True, True), (1 << 32, MAX, True, False),
                                             (MAX32, 1 << 32, False, False)):
            self.assertEqual(is_gone(ins(0x4D, 3, 4), dst, x), wide_says, (dst, x))
            self.assertEqual(is_gone(ins(0x4E, 3, 4), dst, x), half_says, (dst, x))
        for dst, imm, wide_says, half_says in ((4, 4, True, True), (4, 3, False, False), (TOP, -1, True, False),
                                               (1 << 32, -1, True, False), (0, -1, False, False)):
            self.assertEqual(is_gone(ins(0x45, 3, imm=imm), dst), wide_says, (dst, imm))
            self.assertEqual(is_gone(ins(0x46, 3, imm=imm), dst), half_says, (dst, imm))

    def test_one_register(self):
        for group in (5, 6):
            for table in (WITHOUT_SIGN, WITH_SIGN):
                for op, says in table.items():
                    for number in (0, 1, TOP32, TOP, MAX):
                        self.assertEqual(is_gone(ins(16 * op + 8 + group, 3, 3), number), says[1] == 1, (group, op))
            self.assertTrue(is_gone(ins(0x48 + group, 3, 3), 1))
            self.assertFalse(is_gone(ins(0x48 + group, 3, 3), 0))
        self.assertTrue(is_gone(ins(0x4D, 3, 3), TOP))
        self.assertFalse(is_gone(ins(0x4E, 3, 3), TOP))

    def test_addresses_are_numbers_here(self):
        # r1 is 2^32 and register 10 is 2^33, whatever kind is told of them.
        self.assertTrue(is_gone(ins(0x1D, 3, 1), 1 << 32))
        self.assertTrue(is_gone(ins(0x1E, 3, 10), 0))
        self.assertTrue(is_gone(ins(0xAD, 3, 10), (1 << 33) - 1))
        self.assertFalse(is_gone(ins(0xAD, 3, 10), 1 << 33))


class WaysTest(unittest.TestCase):
    def test_always(self):
        for row in (ins(0x05, off=2), ins(0x06, imm=2)):
            found = ran([row, ins(0xB7, 3, imm=1), ins(0xB7, 4, imm=1), ins(0xB7, 5, imm=1), END])
            self.assertEqual(found.end(), (0, -1))
            self.assertEqual(found.regs[3:6], [0, 0, 1])

    def test_always_by_0(self):
        for row in (ins(0x05), ins(0x06)):
            self.assertEqual(ran([row, ins(0xB7, 3, imm=1), END]).regs[3], 1)

    def test_far(self):
        middle = [ins(0xB7, 3, imm=1)] * 126
        for row in (ins(0x05, off=126), ins(0x06, imm=126), ins(0x15, off=126)):
            found = ran([row] + middle + [END], most=2)
            self.assertEqual((found.end(), found.regs[3]), ((0, -1), 0))

    def test_off_of_a_comparison(self):
        rows = [ins(0x15, 0, off=2), ins(0xB7, 3, imm=1), ins(0xB7, 4, imm=1), ins(0xB7, 5, imm=1), END]
        self.assertEqual(ran(rows).regs[3:6], [0, 0, 1])
        rows[0] = ins(0x55, 0, off=2)
        self.assertEqual(ran(rows).regs[3:6], [1, 1, 1])

    def test_back(self):
        # A sum of 1 to 10 by a jump that goes back until register 3 is 0.
        rows = [ins(0xB7, 3, imm=10), ins(0x0F, 0, 3), ins(0x17, 3, imm=1), ins(0x55, 3, off=-3), END]
        found = ran(rows)
        self.assertEqual((found.end(), found.regs[0], found.regs[3]), ((0, -1), 55, 0))

    def test_back_always(self):
        for row in (ins(0x05, off=-3), ins(0x06, imm=-3)):
            found = ran([ins(0x07, 3, imm=1), ins(0x65, 3, off=1, imm=4), row, END])
            self.assertEqual((found.end(), found.regs[3]), ((0, -1), 5))

    def test_to_the_first(self):
        rows = [ins(0x07, 3, imm=1)] + [ins(0x07, 4, imm=1)] * 126 + [ins(0x05, off=-128)]
        found = ran(rows, most=129)
        self.assertEqual((found.end(), found.regs[3], found.regs[4]), ((2, 1), 2, 126))

    def test_to_itself(self):
        for row in (ins(0x05, off=-1), ins(0x06, imm=-1), ins(0x15, off=-1)):
            for most in (0, 1, 2, 2000):
                self.assertEqual(ran([row, END], most=most).end(), (2, 0))
        self.assertEqual(ran([ins(0x55, off=-1), END]).end(), (0, -1))

    def test_into_what_follows_a_wide_one(self):
        found = ran([ins(0x05, off=2), wide(3, 5), wide(4, 6), END])
        self.assertEqual((found.end(), found.regs[3:5]), ((0, -1), [0, 6]))


if __name__ == "__main__":
    unittest.main()
