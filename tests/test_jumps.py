"""What the ways on from a comparison know, and what is told where ways meet."""

import unittest

from tests.helper import ANY, END, HALF, NO_WAY, WORD, Sketch, ask, ins, judge, load, tell, told_of, ways, wide

MAX = WORD - 1
TOP = 1 << 63
MAX32 = HALF - 1
TOP32 = 1 << 31

# The upper bits of codes by what they compare; with sign the second.
EQUAL, UNEQUAL, COMMON = 0x10, 0x50, 0x40
ABOVE, AT_LEAST, BELOW, AT_MOST = (0x20, 0x60), (0x30, 0x70), (0xA0, 0xC0), (0xB0, 0xD0)
SRC = 8


class WayTest(unittest.TestCase):
    def check(self, code, rows):
        """Rows of dst and x (lo, hi; one number: an imm), then of both where it's so and where not; None: not gone."""
        for dst, x, so, not_so in rows:
            by_imm = isinstance(x, int)
            row = ins(code, 3, imm=x) if by_imm else ins(code + SRC, 3, 4)
            found = ways(row, (0,) + dst, None if by_imm else (0,) + x)
            for told, expected in zip(found, (so, not_so)):
                if expected is None:
                    self.assertEqual(told, [NO_WAY, NO_WAY], (hex(code), dst, x))
                elif by_imm:
                    self.assertEqual(told, [[0] + list(expected), [0, 0, 0]], (hex(code), dst, x))
                else:
                    self.assertEqual(told, [[0] + list(span) for span in expected], (hex(code), dst, x))

    def check_all(self, upper, rows):
        """In both classes, where a pair of upper bits is told with and without sign."""
        for bits in (upper if isinstance(upper, tuple) else (upper,)):
            for group in (5, 6):
                self.check(bits + group, rows)


class ImmTest(WayTest):
    def test_equal(self):
        self.check_all(EQUAL, [((1, 9), 5, (5, 5), (1, 9)), ((1, 9), 1, (1, 1), (2, 9)), ((1, 9), 9, (9, 9), (1, 8)),
                               ((1, 9), 0, None, (1, 9)), ((1, 9), 10, None, (1, 9)), ((5, 5), 5, (5, 5), None),
                               ((1, 2), 1, (1, 1), (2, 2)), ((1, 2), 2, (2, 2), (1, 1))])

    def test_unequal(self):
        self.check_all(UNEQUAL, [((1, 9), 5, (1, 9), (5, 5)), ((1, 9), 1, (2, 9), (1, 1)), ((1, 9), 9, (1, 8), (9, 9)),
                                 ((1, 9), 0, (1, 9), None), ((1, 9), 10, (1, 9), None), ((5, 5), 5, None, (5, 5)),
                                 ((5, 5), 6, (5, 5), None)])

    def test_above(self):
        self.check_all(ABOVE, [((1, 9), 5, (6, 9), (1, 5)), ((1, 9), 0, (1, 9), None), ((1, 9), 1, (2, 9), (1, 1)),
                               ((1, 9), 8, (9, 9), (1, 8)), ((1, 9), 9, None, (1, 9)), ((1, 9), 100, None, (1, 9)),
                               ((5, 5), 4, (5, 5), None), ((5, 5), 5, None, (5, 5))])

    def test_at_least(self):
        self.check_all(AT_LEAST, [((1, 9), 5, (5, 9), (1, 4)), ((1, 9), 0, (1, 9), None), ((1, 9), 1, (1, 9), None),
                                  ((1, 9), 2, (2, 9), (1, 1)), ((1, 9), 9, (9, 9), (1, 8)), ((1, 9), 10, None, (1, 9))])

    def test_below(self):
        self.check_all(BELOW, [((1, 9), 5, (1, 4), (5, 9)), ((1, 9), 0, None, (1, 9)), ((1, 9), 1, None, (1, 9)),
                               ((1, 9), 2, (1, 1), (2, 9)), ((1, 9), 9, (1, 8), (9, 9)), ((1, 9), 10, (1, 9), None)])

    def test_at_most(self):
        self.check_all(AT_MOST, [((1, 9), 5, (1, 5), (6, 9)), ((1, 9), 0, None, (1, 9)), ((1, 9), 1, (1, 1), (2, 9)),
                                 ((1, 9), 8, (1, 8), (9, 9)), ((1, 9), 9, (1, 9), None), ((1, 9), 100, (1, 9), None)])

    def test_common_bits_tell_nothing(self):
        self.check_all(COMMON, [((1, 9), 5, (1, 9), (1, 9)), ((5, 5), 5, (5, 5), (5, 5)), ((5, 5), 2, (5, 5), (5, 5)),
                                ((5, 5), 0, (5, 5), (5, 5)), ((0, 0), -1, (0, 0), (0, 0))])

    def test_at_the_edges_of_words(self):
        self.check(0x25, [((0, MAX), 0, (1, MAX), (0, 0)), ((0, MAX), -1, None, (0, MAX)),
                          ((0, MAX), -2, (MAX, MAX), (0, MAX - 1))])
        self.check(0xA5, [((0, MAX), 0, None, (0, MAX)), ((0, MAX), -1, (0, MAX - 1), (MAX, MAX)),
                          ((1, MAX), -1, (1, MAX - 1), (MAX, MAX))])
        self.check(0x15, [((0, MAX), -1, (MAX, MAX), (0, MAX - 1)), ((0, MAX), 0, (0, 0), (1, MAX)),
                          ((MAX, MAX), -1, (MAX, MAX), None)])
        self.check(0x35, [((0, MAX), 0, (0, MAX), None), ((0, MAX), -1, (MAX, MAX), (0, MAX - 1))])

    def test_imm_is_taken_modulo_32_bits_in_class_six(self):
        self.check(0x26, [((0, MAX32), -2, (MAX32, MAX32), (0, MAX32 - 1)), ((1, 9), -1, None, (1, 9))])
        self.check(0x16, [((0, MAX32), -1, (MAX32, MAX32), (0, MAX32 - 1)), ((MAX32, MAX32), -1, (MAX32, MAX32), None)])
        self.check(0xA6, [((0, MAX32), -1, (0, MAX32 - 1), (MAX32, MAX32)), ((1, 9), -1, (1, 9), None)])

    def test_class_six_above_32_bits(self):
        for code in (0x16, 0x26, 0x36, 0x56, 0xA6, 0xB6, 0x66, 0x76, 0xC6, 0xD6):
            self.check(code, [((0, HALF), 5, (0, HALF), (0, HALF)), ((HALF, HALF), 5, (HALF, HALF), (HALF, HALF)),
                              ((0, MAX), 5, (0, MAX), (0, MAX))])


    def test_register_zero_is_no_x(self):
        rows = load(ins(0xB7, 0, imm=7), ins(0x25, 2, off=1, imm=10), END, END)
        self.assertEqual(ask(rows, judge(0), tell(2, 0), tell(3, 0))[2:], [[0, 7, 7], [0, 7, 7]])
        # Nor is it where it's dst itself: x is imm, and not the same register.
        rows = load(ins(0x71, 0, 1), ins(0x25, 0, off=1, imm=10), END, END)
        self.assertEqual(ask(rows, judge(1), tell(2, 0), tell(3, 0))[2:], [[0, 0, 10], [0, 11, 255]])
        rows = load(ins(0xBF, 6, 2), ins(0x85), ins(0x15, 6, off=1, imm=10), END, END)
        self.assertEqual(ask(rows, judge(1), tell(3, 0), tell(4, 0))[2:], [ANY, ANY])


class SignTest(WayTest):
    def test_below_the_sign(self):
        self.check(0x65, [((0, TOP - 1), 5, (6, TOP - 1), (0, 5)), ((0, TOP), 5, (0, TOP), (0, TOP)),
                          ((MAX, MAX), 5, (MAX, MAX), (MAX, MAX))])
        self.check(0x66, [((0, TOP32 - 1), 5, (6, TOP32 - 1), (0, 5)), ((0, TOP32), 5, (0, TOP32), (0, TOP32)),
                          ((MAX32, MAX32), 5, (MAX32, MAX32), (MAX32, MAX32))])

    def test_each_comparison_at_the_sign(self):
        for upper, so, not_so in ((0x60, (6, None), (0, 5)), (0x70, (5, None), (0, 4)), (0xC0, (0, 4), (5, None)),
                                  (0xD0, (0, 5), (6, None))):
            for group, sign in ((5, TOP), (6, TOP32)):
                within = [(lo, sign - 1 if hi is None else hi) for lo, hi in (so, not_so)]
                self.check(upper + group, [((0, sign - 1), 5, within[0], within[1]),
                                           ((0, sign), 5, (0, sign), (0, sign))])

    def test_a_negative_imm(self):
        for group in (5, 6):
            for upper in (0x60, 0x70, 0xC0, 0xD0):
                self.check(upper + group, [((1, 9), -1, (1, 9), (1, 9)), ((5, 5), -1, (5, 5), (5, 5))])

    def test_a_register_with_its_sign_set(self):
        for upper in (0x60, 0x70, 0xC0, 0xD0):
            self.check(upper + 5, [((1, 9), (5, TOP), ((1, 9), (5, TOP)), ((1, 9), (5, TOP)))])
            self.check(upper + 6, [((1, 9), (5, TOP32), ((1, 9), (5, TOP32)), ((1, 9), (5, TOP32)))])

    def test_above_32_bits_class_five_knows(self):
        self.check(0x65, [((1, HALF), (5, HALF + 5), ((6, HALF), (5, HALF - 1)), ((1, HALF), (5, HALF + 5)))])


class SrcTest(WayTest):
    def test_equal(self):
        self.check_all(EQUAL, [((1, 9), (5, 20), ((5, 9), (5, 9)), ((1, 9), (5, 20))),
                               ((1, 9), (5, 5), ((5, 5), (5, 5)), ((1, 9), (5, 5))),
                               ((1, 9), (1, 1), ((1, 1), (1, 1)), ((2, 9), (1, 1))),
                               ((7, 7), (7, 9), ((7, 7), (7, 7)), ((7, 7), (8, 9))),
                               ((9, 9), (7, 9), ((9, 9), (9, 9)), ((9, 9), (7, 8))),
                               ((1, 9), (10, 20), None, ((1, 9), (10, 20))),
                               ((7, 7), (7, 7), ((7, 7), (7, 7)), None)])

    def test_unequal(self):
        self.check_all(UNEQUAL, [((1, 9), (5, 20), ((1, 9), (5, 20)), ((5, 9), (5, 9))),
                                 ((1, 9), (9, 9), ((1, 8), (9, 9)), ((9, 9), (9, 9))),
                                 ((1, 1), (1, 9), ((1, 1), (2, 9)), ((1, 1), (1, 1))),
                                 ((1, 2), (1, 2), ((1, 2), (1, 2)), ((1, 2), (1, 2))),
                                 ((1, 9), (10, 20), ((1, 9), (10, 20)), None)])

    def test_above(self):
        self.check_all(ABOVE, [((1, 9), (5, 20), ((6, 9), (5, 8)), ((1, 9), (5, 20))),
                               ((5, 20), (1, 9), ((5, 20), (1, 9)), ((5, 9), (5, 9))),
                               ((1, 9), (9, 20), None, ((1, 9), (9, 20))),
                               ((1, 9), (8, 20), ((9, 9), (8, 8)), ((1, 9), (8, 20))),
                               ((9, 20), (1, 8), ((9, 20), (1, 8)), None),
                               ((9, 20), (1, 9), ((9, 20), (1, 9)), ((9, 9), (9, 9)))])

    def test_at_least(self):
        self.check_all(AT_LEAST, [((1, 9), (5, 20), ((5, 9), (5, 9)), ((1, 9), (5, 20))),
                                  ((5, 20), (1, 9), ((5, 20), (1, 9)), ((5, 8), (6, 9))),
                                  ((1, 9), (10, 20), None, ((1, 9), (10, 20))),
                                  ((9, 20), (1, 9), ((9, 20), (1, 9)), None)])

    def test_below(self):
        self.check_all(BELOW, [((1, 9), (5, 20), ((1, 9), (5, 20)), ((5, 9), (5, 9))),
                               ((5, 20), (1, 9), ((5, 8), (6, 9)), ((5, 20), (1, 9))),
                               ((1, 9), (10, 20), ((1, 9), (10, 20)), None),
                               ((9, 20), (1, 9), None, ((9, 20), (1, 9)))])

    def test_at_most(self):
        self.check_all(AT_MOST, [((1, 9), (5, 20), ((1, 9), (5, 20)), ((6, 9), (5, 8))),
                                 ((5, 20), (1, 9), ((5, 9), (5, 9)), ((5, 20), (1, 9))),
                                 ((1, 9), (9, 20), ((1, 9), (9, 20)), None),
                                 ((9, 20), (1, 8), None, ((9, 20), (1, 8)))])

    def test_common_bits_tell_nothing(self):
        self.check_all(COMMON, [((1, 9), (5, 20), ((1, 9), (5, 20)), ((1, 9), (5, 20))),
                                ((1, 1), (2, 2), ((1, 1), (2, 2)), ((1, 1), (2, 2)))])

    def test_at_the_edges_of_words(self):
        self.check(0x25, [((0, MAX), (0, MAX), ((1, MAX), (0, MAX - 1)), ((0, MAX), (0, MAX))),
                          ((0, MAX), (MAX, MAX), None, ((0, MAX), (MAX, MAX))),
                          ((0, 0), (0, MAX), None, ((0, 0), (0, MAX)))])
        self.check(0xA5, [((0, MAX), (0, MAX), ((0, MAX - 1), (1, MAX)), ((0, MAX), (0, MAX))),
                          ((0, MAX), (0, 0), None, ((0, MAX), (0, 0)))])

    def test_class_six_above_32_bits(self):
        for upper in (EQUAL, UNEQUAL, *ABOVE, *AT_LEAST, *BELOW, *AT_MOST):
            self.check(upper + 6, [((1, 9), (5, HALF), ((1, 9), (5, HALF)), ((1, 9), (5, HALF))),
                                   ((5, HALF), (1, 9), ((5, HALF), (1, 9)), ((5, HALF), (1, 9))),
                                   ((5, 5), (HALF, HALF), ((5, 5), (HALF, HALF)), ((5, 5), (HALF, HALF)))])
        self.check(0x26, [((1, MAX32), (5, MAX32), ((6, MAX32), (5, MAX32 - 1)), ((1, MAX32), (5, MAX32)))])


class AddressTest(unittest.TestCase):
    def test_addresses_tell_nothing(self):
        for upper in (EQUAL, UNEQUAL, COMMON, *ABOVE, *AT_LEAST, *BELOW, *AT_MOST):
            for group in (5, 6):
                for dst, x in (((1, 2, 9), (0, 5, 5)), ((0, 5, 5), (1, 2, 9)), ((1, 2, 9), (1, 5, 5)),
                               ((2, 8, 8), (2, 8, 8)), ((2, 8, 8), (0, 5, 9)), ((1, 5, 5), (1, 5, 5))):
                    found = ways(ins(upper + group + SRC, 3, 4), dst, x)
                    self.assertEqual(found, ([list(dst), list(x)], [list(dst), list(x)]))
                found = ways(ins(upper + group, 3, imm=0), (1, 2, 9))
                self.assertEqual([told[0] for told in found], [[1, 2, 9], [1, 2, 9]])


class OneRegisterTest(unittest.TestCase):
    def check(self, upper, dst, so, not_so):
        for group in (5, 6):
            for bits in (upper if isinstance(upper, tuple) else (upper,)):
                found = ways(ins(bits + group + SRC, 3, 3), (0,) + dst)
                expected = [NO_WAY if span is None else [0] + list(span) for span in (so, not_so)]
                self.assertEqual([told[0] for told in found], expected, hex(bits + group))

    def test_more_than_one_number(self):
        self.check(EQUAL, (1, 9), (1, 9), (1, 9))
        self.check(UNEQUAL, (1, 9), (1, 9), (1, 9))
        self.check(ABOVE, (1, 9), (2, 8), (1, 9))
        self.check(AT_LEAST, (1, 9), (1, 9), (2, 8))
        self.check(BELOW, (1, 9), (2, 8), (1, 9))
        self.check(AT_MOST, (1, 9), (1, 9), (2, 8))
        self.check(COMMON, (1, 9), (1, 9), (1, 9))

    def test_two_and_three_numbers(self):
        self.check(ABOVE, (1, 2), None, (1, 2))
        self.check(AT_MOST, (1, 2), (1, 2), None)
        self.check(ABOVE, (1, 3), (2, 2), (1, 3))
        self.check(BELOW, (1, 2), None, (1, 2))
        self.check(AT_LEAST, (1, 2), (1, 2), None)

    def test_one_number(self):
        self.check(EQUAL, (5, 5), (5, 5), None)
        self.check(UNEQUAL, (5, 5), None, (5, 5))
        self.check(ABOVE, (5, 5), None, (5, 5))
        self.check(AT_MOST, (5, 5), (5, 5), None)


class MeetTest(unittest.TestCase):
    def meeting(self, *spans):
        """The range of register 3 where ways with these ranges meet."""
        sketch = Sketch()
        sketch.put(ins(0x79, 5, 1))
        ends = []
        for span in spans:
            sketch.rows.append(None)
            test = sketch.place() - 1
            sketch.span(3, *span)
            ends.append(sketch.place())
            sketch.rows.append(None)
            sketch.rows[test] = ins(0x45, 5, off=sketch.place() - test - 1, imm=1)
        sketch.put(END)
        meet = sketch.place()
        sketch.put(END)
        for end in ends:
            sketch.rows[end] = ins(0x05, off=meet - end - 1)
        return told_of(sketch.finished(), 8, [(meet, 3)])[0]

    def test_numbers(self):
        self.assertEqual(self.meeting((0, 1, 5)), [0, 1, 5])
        self.assertEqual(self.meeting((0, 1, 5), (0, 3, 9)), [0, 1, 9])
        self.assertEqual(self.meeting((0, 20, 30), (0, 3, 9)), [0, 3, 30])
        self.assertEqual(self.meeting((0, 3, 9), (0, 1, 1), (0, 7, 20)), [0, 1, 20])
        self.assertEqual(self.meeting((0, 7, 7), (0, 7, 7)), [0, 7, 7])

    def test_data(self):
        self.assertEqual(self.meeting((1, 1, 5), (1, 3, 9)), [1, 1, 9])
        self.assertEqual(self.meeting((1, 8, 8), (1, 0, 0)), [1, 0, 8])

    def test_stack(self):
        self.assertEqual(self.meeting((2, 8, 8), (2, 8, 8)), [2, 8, 8])
        self.assertEqual(self.meeting((2, 8, 8), (2, 16, 16)), ANY)
        self.assertEqual(self.meeting((2, 8, 8), (2, 16, 16), (2, 8, 8)), ANY)

    def test_kinds_that_differ(self):
        for one, other in (((0, 1, 5), (1, 1, 5)), ((0, 8, 8), (2, 8, 8)), ((1, 8, 8), (2, 8, 8))):
            self.assertEqual(self.meeting(one, other), ANY)
            self.assertEqual(self.meeting(other, one), ANY)
            self.assertEqual(self.meeting(one, other, one), ANY)
            self.assertEqual(self.meeting(one, one, other), ANY)
            self.assertEqual(self.meeting(one, other, other), ANY)

    def test_both_ways_to_the_next(self):
        rows = load(ins(0x25, 2, off=0, imm=10), END)
        self.assertEqual(ask(rows, judge(4), tell(1, 2))[2], [0, 4, 256])
        rows = load(ins(0x25, 2, off=0, imm=256), END)
        self.assertEqual(ask(rows, judge(4), tell(1, 2))[2], [0, 4, 256])
        # Where only one way is gone its cut is kept.
        rows = load(ins(0x1D, 2, 3), END)
        self.assertEqual(ask(rows, judge(0), tell(1, 2), tell(1, 3))[2:], [[0, 0, 256], [0, 0, 0]])

    def test_a_way_that_is_not_gone_does_not_meet(self):
        rows = load(ins(0x15, 3, off=1, imm=1), ins(0xB7, 3, imm=9), END)
        self.assertEqual(ask(rows, judge(0), tell(2, 3))[2], [0, 9, 9])

    def test_what_stands_behind_a_wrong_instruction_does_not_meet(self):
        rows = load(ins(0x45, 2, off=2, imm=1), ins(0xB7, 3, imm=9), ins(0x71, 4, 3), END)
        self.assertEqual(ask(rows, judge(0), tell(3, 3), tell(3, 4))[1:], [[1, 2], [0, 0, 0], [0, 0, 0]])
        rows = load(ins(0x45, 2, off=2, imm=1), ins(0xB7, 3, imm=9), ins(0x05, off=-1), END)
        self.assertEqual(ask(rows, judge(0), tell(3, 3))[1:], [[1, 2], [0, 0, 0]])

    def test_pieces_of_the_stack_meet(self):
        rows = load(ins(0x45, 2, off=1, imm=1), ins(0x7A, 10, off=-8, imm=7), END)
        self.assertEqual(ask(rows, judge(0), tell(2, 74), tell(2, 73))[2:], [[0, 0, 7], [0, 0, 0]])
        rows = load(ins(0x45, 2, off=1, imm=1), ins(0x7B, 10, 1, -512), END)
        self.assertEqual(ask(rows, judge(0), tell(2, 11))[2], ANY)


class AlwaysTest(unittest.TestCase):
    def test_one_way_alone(self):
        for row in (ins(0x05, off=1), ins(0x06, imm=1)):
            rows = load(row, END, END)
            self.assertEqual(ask(rows, judge(3), tell(1, 2), tell(2, 2))[2:], [NO_WAY, [0, 3, 256]])

    def test_over_a_wide_one(self):
        rows = load(ins(0x25, 2, off=2, imm=10), wide(3, 5), END)
        self.assertEqual(ask(rows, judge(0), tell(1, 2), tell(3, 3), tell(3, 2), tell(2, 2))[2:],
                         [[0, 0, 10], [0, 0, 5], [0, 0, 256], [-1]])


if __name__ == "__main__":
    unittest.main()
