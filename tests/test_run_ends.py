"""Runs: how they end, how many instructions they begin, what they begin with, and what helpers are asked."""

import unittest

from tests.helper import ALL_LEFT, END, Ran, ask, ins, judge, load, ran, reg, run, wide

MAX = (1 << 64) - 1
DATA = 1 << 32
TOP = 1 << 33
MOST = 10 ** 18
EMPTY = [0] * 512


class FirstTest(unittest.TestCase):
    def test_registers_and_stack(self):
        for count in (0, 1, 255, 256):
            found = ran([END], [7] * count)
            self.assertEqual(found.regs, [0, DATA, count, 0, 0, 0, 0, 0, 0, 0, TOP])
            self.assertEqual((found.end(), found.asked, found.data), ((0, -1), [], [7] * count))
            self.assertEqual(found.stack, EMPTY)

    def test_the_whole_answer(self):
        self.assertEqual(ask(load(END), run(1))[1], [0, -1, 0, 0])
        self.assertEqual(ask(load(END), run(1, [3, 1, 2]))[1], [0, -1, 0, 3, 3, 1, 2])
        self.assertEqual(ask(load(END), run(0, [3]))[1], [2, 0, 0, 1, 3])
        code = load(ins(0x85, imm=7), END)
        self.assertEqual(ask(code, run(9, [3], [5, 0]))[1], [0, -1, 1, 7, DATA, 1, 0, 0, 0, 0, 1, 3])
        self.assertEqual(ask(code, run(9, [3], [5, 1]))[1], [3, 0, 1, 7, DATA, 1, 0, 0, 0, 0, 1, 3])


class EndTest(unittest.TestCase):
    def test_ended(self):
        rows = [ins(0xB7, 3, imm=1), END, ins(0xB7, 3, imm=2), END]
        found = ran(rows, [1])
        self.assertEqual((found.end(), found.regs[3]), ((0, -1), 1))

    def test_ended_elsewhere(self):
        self.assertEqual(ran([ins(0x05, off=1), END, END]).end(), (0, -1))

    def test_astray(self):
        rows = [ins(0xB7, 3, imm=1), ins(0x71, 3, 1, 1), ins(0xB7, 4, imm=1), END]
        found = ran(rows, [9])
        self.assertEqual((found.end(), found.regs[3:5], found.data), ((1, 1), [1, 0], [9]))

    def test_place_behind_a_wide_one(self):
        rows = [wide(3, 5), wide(4, 6), ins(0x71, 3, 0), END]
        self.assertEqual(ran(rows).end(), (1, 4))
        self.assertEqual(ran(rows, most=2).end(), (2, 4))
        self.assertEqual(ran(rows, most=1).end(), (2, 2))

    def test_last_place(self):
        rows = [ins(0x05, off=126)] + [END] * 126
        self.assertEqual(ran(rows + [ins(0x05, off=-2)], most=2).end(), (2, 126))
        self.assertEqual(ran(rows + [ins(0x05, off=-1)]).end(), (2, 127))

    def test_not_judged_or_not_good(self):
        code = load(ins(0x71, 3, 1, 5), END)
        for calls in ([], [judge(6)], [judge(5)], [judge(6), judge(0)], [judge(300)]):
            for count, how in ((5, [1, 0]), (6, [0, -1])):
                self.assertEqual(ask(code, *calls, run(9, [8] * count))[-1][:2], how)

    def test_a_bad_way_that_is_not_gone(self):
        rows = [ins(0x15, 0, off=1), ins(0x71, 3, 0), END]
        self.assertEqual(ran(rows).end(), (0, -1))
        self.assertEqual(ask(load(ins(0x85), *rows), judge(0))[1], [1, 2])
        self.assertEqual(ran([ins(0x85)] + rows, [], [0, 0]).end(), (0, -1))
        self.assertEqual(ran([ins(0x85)] + rows, [], [1, 0]).end(), (1, 2))


class MostTest(unittest.TestCase):
    def test_none(self):
        for rows in ([END], [ins(0x71, 3, 0), END], [ins(0x85), END], [ins(0x05, off=-1)], [ins(0xB7, 3, imm=1), END]):
            found = ran(rows, [4], [9, 9], most=0)
            self.assertEqual((found.end(), found.asked, found.data), ((2, 0), [], [4]))
            self.assertEqual(found.regs, [0, DATA, 1, 0, 0, 0, 0, 0, 0, 0, TOP])

    def test_just_enough(self):
        rows = [ins(0x07, 3, imm=1)] * 9 + [END]
        self.assertEqual((ran(rows, most=10).end(), ran(rows, most=10).regs[3]), ((0, -1), 9))
        self.assertEqual((ran(rows, most=9).end(), ran(rows, most=9).regs[3]), ((2, 9), 9))
        self.assertEqual((ran(rows, most=8).end(), ran(rows, most=8).regs[3]), ((2, 8), 8))
        self.assertEqual(ran([END], most=1).end(), (0, -1))

    def test_each_step(self):
        rows = [ins(0xBF, 6, 1), ins(0x7A, 10, off=-8, imm=5), ins(0x85, imm=1), ins(0x72, 6, imm=3), END]
        steps = [ran(rows, [0], [6, 0], most=most) for most in range(7)]
        self.assertEqual([step.end() for step in steps], [(2, 0), (2, 1), (2, 2), (2, 3), (2, 4), (0, -1), (0, -1)])
        self.assertEqual([step.regs[6] for step in steps], [0] + [DATA] * 6)
        self.assertEqual([step.stack[504] for step in steps], [0, 0, 5, 5, 5, 5, 5])
        self.assertEqual([len(step.asked) for step in steps], [0, 0, 0, 1, 1, 1, 1])
        self.assertEqual([step.regs[0] for step in steps], [0, 0, 0, 6, 6, 6, 6])
        self.assertEqual([step.data for step in steps], [[0], [0], [0], [0], [3], [3], [3]])

    def test_the_one_that_stops_has_begun(self):
        # Where most have begun the next one isn't looked at.
        rows = [ins(0xB7, 3, imm=1), ins(0x71, 3, 0), END]
        self.assertEqual([ran(rows, most=most).end() for most in (1, 2, 3)], [(2, 1), (1, 1), (1, 1)])
        rows = [ins(0xB7, 3, imm=1), ins(0x85), END]
        self.assertEqual([ran(rows, [], [0, 1], most).end() for most in (1, 2, 3)], [(2, 1), (3, 1), (3, 1)])

    def test_a_wide_one_counts_once(self):
        rows = [wide(3, MAX)] * 3 + [END]
        self.assertEqual(ran(rows, most=4).end(), (0, -1))
        self.assertEqual(ran(rows, most=3).end(), (2, 6))

    def test_jumps_count(self):
        rows = [ins(0x05, off=1), END, ins(0x15, 3, off=1), END, END]
        self.assertEqual(ran(rows, most=3).end(), (0, -1))
        self.assertEqual(ran(rows, most=2).end(), (2, 4))

    def test_the_greatest(self):
        rows = [ins(0x07, 3, imm=1), ins(0x05, off=-2)]
        found = ran(rows, most=2000)
        self.assertEqual((found.end(), found.regs[3]), ((2, 0), 1000))
        found = ran(rows, most=1999)
        self.assertEqual((found.end(), found.regs[3]), ((2, 1), 1000))
        # 2000 in all: one, then 999 rounds of two, then the end.
        rows = [ins(0xB7, 3, imm=999), ins(0x17, 3, imm=1), ins(0x55, 3, off=-2), END]
        self.assertEqual(ran(rows, most=2000).end(), (0, -1))
        self.assertEqual(ran(rows, most=1999).end(), (2, 3))


class HelperTest(unittest.TestCase):
    def test_none_asked(self):
        found = ran([END], [], [5, 6, 7, 8])
        self.assertEqual((found.end(), found.asked, found.regs[0]), ((0, -1), [], 0))

    def test_one(self):
        rows = [wide(0, MAX)] + [ins(0xB7, number, imm=10 + number) for number in range(3, 10)]
        found = ran(rows + [ins(0x85, imm=7), END], [9, 9], [5, 0])
        self.assertEqual(found.end(), (0, -1))
        self.assertEqual(found.asked, [[7, DATA, 2, 13, 14, 15, MAX]])
        self.assertEqual(found.regs, [5, 0, 0, 0, 0, 0, 16, 17, 18, 19, TOP])

    def test_memory_stays(self):
        rows = [ins(0x72, 1, imm=9), ins(0x72, 10, off=-1, imm=8), ins(0x85), END]
        found = ran(rows, [1, 2], [5, 0])
        self.assertEqual((found.data, found.stack), ([9, 2], [0] * 511 + [8]))

    def test_several(self):
        rows = [ins(0x85, imm=1), ins(0xB7, 1, imm=4), ins(0x85, imm=2), ins(0xB7, 5, imm=-1), ins(0x85, imm=1), END]
        found = ran(rows, [], [11, 0, MOST, 0, 0, 0])
        self.assertEqual(found.end(), (0, -1))
        self.assertEqual(found.asked, [[1, DATA, 0, 0, 0, 0, 0], [2, 4, 0, 0, 0, 0, 11], [1, 0, 0, 0, 0, MAX, MOST]])
        self.assertEqual(found.regs[:6], [0] * 6)

    def test_more_than_there_are_twos(self):
        rows = [ins(0x85, imm=1)] * 4 + [END]
        found = ran(rows, [], [11, 0, 12, 0])
        self.assertEqual(found.end(), (0, -1))
        self.assertEqual([row[6] for row in found.asked], [0, 11, 12, 0])
        self.assertEqual(found.regs[0], 0)
        found = ran([wide(0, 5), wide(3, 6), ins(0x85, imm=3), END])
        self.assertEqual((found.end(), found.asked), ((0, -1), [[3, DATA, 0, 6, 0, 0, 5]]))
        self.assertEqual(found.regs[:6], [0] * 6)

    def test_imm_as_32_bits(self):
        for imm, told in ((0, 0), (1, 1), (-1, (1 << 32) - 1), (-(1 << 31), 1 << 31), ((1 << 31) - 1, (1 << 31) - 1)):
            self.assertEqual(ran([ins(0x85, imm=imm), END]).asked, [[told, DATA, 0, 0, 0, 0, 0]])

    def test_a_code(self):
        rows = [wide(0, 77), ins(0xB7, 4, imm=-1), ins(0x85, imm=9), ins(0xB7, 6, imm=1), END]
        for code in (1, -1, 256, MOST, -MOST):
            found = ran(rows, [3], [5, code])
            self.assertEqual(found.end(), (3, 3))
            self.assertEqual(found.asked, [[9, DATA, 1, 0, MAX, 0, 77]])
            self.assertEqual(found.regs, [77, DATA, 1, 0, MAX, 0, 0, 0, 0, 0, TOP])
            self.assertEqual((found.data, found.stack), ([3], EMPTY))

    def test_a_code_later(self):
        rows = [ins(0x85, imm=1), ins(0x85, imm=2), ins(0x85, imm=3), END]
        found = ran(rows, [], [5, 0, 6, -3, 7, 0])
        self.assertEqual(found.end(), (3, 1))
        self.assertEqual(found.asked, [[1, DATA, 0, 0, 0, 0, 0], [2, 0, 0, 0, 0, 0, 5]])
        self.assertEqual(found.regs[0], 5)

    def test_a_code_that_is_not_reached(self):
        self.assertEqual(ran([ins(0x85), END], [], [5, 0, 6, 1]).end(), (0, -1))

    def test_in_a_loop(self):
        rows = [ins(0x85, imm=5), ins(0x55, 0, off=-2), END]
        found = ran(rows, [], [3, 0, 2, 0, 1, 0, 0, 0, 9, 0])
        self.assertEqual((found.end(), len(found.asked)), ((0, -1), 4))
        self.assertEqual([row[6] for row in found.asked], [0, 3, 2, 1])

    def test_two_thousand(self):
        found = ran([ins(0x85), ins(0x05, off=-2)], [], [1, 0] * 900 + [2, 0] * 100)
        self.assertEqual((found.end(), len(found.asked), found.regs[0]), ((2, 0), 1000, 2))
        rows = [ins(0x85, imm=1)] * 127 + [ins(0x06, imm=-128)]
        found = ran(rows, [], [5, 0] * 5000)
        self.assertEqual((found.how, len(found.asked)), (2, 2000 - 2000 // 128))

    def test_every_run_takes_the_twos_anew(self):
        found = ask(load(ins(0x85), END), run(9, [], [5, 0]), reg(0), run(9, [], [6, 0]), reg(0), run(9), reg(0))
        self.assertEqual([row[0] for row in found[2::2]], [5, 6, 0])


class AnewTest(unittest.TestCase):
    ROWS = [ins(0x79, 3, 10, -8), ins(0x07, 3, imm=1), ins(0x7B, 10, 3, -8), ins(0x72, 1, imm=9), ins(0x07, 9, imm=1),
            END]

    def test_a_new_stack_and_new_registers(self):
        found = ask(load(*self.ROWS), run(9, [1, 2]), *ALL_LEFT, run(9, [1, 2]), *ALL_LEFT)
        first, second = Ran(found[1], found[2:14]), Ran(found[14], found[15:])
        for each in (first, second):
            self.assertEqual((each.end(), each.data), ((0, -1), [9, 2]))
            self.assertEqual(each.regs, [0, DATA, 2, 1, 0, 0, 0, 0, 0, 1, TOP])
            self.assertEqual(each.stack, [0] * 504 + [1] + [0] * 7)

    def test_the_last_run_alone(self):
        found = ask(load(*self.ROWS), run(9, [1, 2]), run(2, [7, 7, 7]), *ALL_LEFT)
        left = Ran(found[2], found[3:])
        self.assertEqual((left.end(), left.data), ((2, 2), [7, 7, 7]))
        self.assertEqual(left.regs, [0, DATA, 3, 1, 0, 0, 0, 0, 0, 0, TOP])
        self.assertEqual(left.stack, EMPTY)


if __name__ == "__main__":
    unittest.main()
