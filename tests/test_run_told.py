"""The calls run, reg and stack on a record: what's refused, what stays then, and which run is told."""

import unittest

from tests.helper import ALL_LEFT, END, STACK, ask, ins, judge, load, reg, run, tell, wide

DATA = 1 << 32
TOP = 1 << 33
FAR = 10 ** 18
# Leaves 5 in register 3 and 6 at the stack's last byte.
MARKED = load(ins(0xB7, 3, imm=5), ins(0x72, 10, off=-1, imm=6), END)
LEFT = [[0], [DATA], [2], [5], [0], [0], [0], [0], [0], [0], [TOP], [512] + [0] * 511 + [6]]
REFUSED = [run(-1), run(2001), run(FAR), run(-FAR), run(9, [0] * 257), run(9, [0] * 300), run(9, [-1]), run(9, [256]),
           run(9, [1, 2, 256, 3]), run(9, [FAR]), run(9, [-FAR]), run(9, [0] * 255 + [256]), run(9, [0] * 256 + [256]),
           run(9, [], [1]), run(9, [], [1, 0, 2]), run(9, [], [0]), run(9, [], [-1]), run(9, [], [-1, 0]),
           run(9, [], [1, 0, -1, 0]), run(9, [], [-FAR, 0]), run(9, [], [1, 0] * 4999 + [-1, 0]),
           run(-1, [256], [1]), run(2001, [0] * 257, [-1, 0])]


class RefusedTest(unittest.TestCase):
    def test_no_program(self):
        for call in [run(), run(0), run(9, [1], [1, 0])] + REFUSED:
            self.assertEqual(ask(call), [[-1]])

    def test_each(self):
        for call in REFUSED:
            self.assertEqual(ask(load(END), call), [[0], [-2]], call[:5])

    def test_edges(self):
        for call in (run(0), run(2000), run(9, [0] * 256), run(9, [255, 0]), run(9, [255] * 256), run(9, [], [0, 0]),
                     run(9, [], [FAR, FAR]), run(9, [], [0, -FAR]), run(9, [], [1, 0] * 5000)):
            self.assertGreaterEqual(ask(load(END), call)[1][0], 0, call[:5])

    def test_codes_that_are_no_words(self):
        self.assertEqual(ask(load(END), run(9, [], [0, -1, 0, -FAR]))[1], [0, -1, 0, 0])

    def test_a_refused_load_is_no_program(self):
        for code in (load([1]), load(ins(0xFF)), load(ins(0xB7, 10), END), load(ins(0x05, off=5))):
            self.assertEqual(ask(code, run(9), run(-1), reg(0), STACK)[1:], [[-1]] * 4)

    def test_a_refused_run_changes_nothing(self):
        for call in REFUSED:
            found = ask(MARKED, judge(1), run(9, [8, 8]), call, *ALL_LEFT, tell(1, 3), tell(1, 2), tell(0, 2))
            self.assertEqual(found[2:4], [[0, -1, 0, 2, 8, 8], [-2]])
            self.assertEqual(found[4:16], LEFT)
            self.assertEqual(found[16:], [[0, 5, 5], [0, 1, 256], [0, 1, 256]])

    def test_a_refused_run_is_no_run(self):
        for call in REFUSED:
            self.assertEqual(ask(MARKED, call, *ALL_LEFT)[1:], [[-2]] + [[-1]] * 12)

    def test_behind_a_refused_run(self):
        found = ask(MARKED, run(2001), run(9, [1, 1]), *ALL_LEFT)
        self.assertEqual(found[2:], [[0, -1, 0, 2, 1, 1]] + LEFT)


class ToldTest(unittest.TestCase):
    def test_ahead_of_all(self):
        self.assertEqual(ask(*ALL_LEFT), [[-1]] * 12)

    def test_ahead_of_a_run(self):
        self.assertEqual(ask(MARKED, judge(0), tell(0, 0), *ALL_LEFT)[3:], [[-1]] * 12)

    def test_which_registers(self):
        calls = [reg(number) for number in (-1, 0, 1, 2, 3, 9, 10, 11, 12, 74, FAR, -FAR)]
        found = ask(MARKED, run(9, [1, 1]), *calls)
        self.assertEqual(found[2:], [[-1], [0], [DATA], [2], [5], [0], [TOP], [-1], [-1], [-1], [-1], [-1]])

    def test_no_run_and_no_register(self):
        self.assertEqual(ask(MARKED, reg(-1), reg(11)), [[0], [-1], [-1]])

    def test_once_another_program_is_loaded(self):
        for code in (MARKED, load(END)):
            found = ask(MARKED, run(9, [1, 1]), *ALL_LEFT, code, *ALL_LEFT)
            self.assertEqual(found[2:], LEFT + [[0]] + [[-1]] * 12)

    def test_a_refused_load_leaves_them(self):
        for code, refusal in ((load(), [-1]), (load([1] * 7), [-1]), (load([256] * 8), [-1]),
                              (load(ins(0xFF)), [-2, 0]), (load(ins(0xB7, 11), END), [-3, 0]),
                              (load(END, ins(0x05, off=5)), [-4, 1])):
            found = ask(MARKED, judge(1), run(9, [1, 1]), code, *ALL_LEFT, tell(1, 3), run(1, [4]))
            self.assertEqual(found[3:], [refusal] + LEFT + [[0, 5, 5], [2, 1, 0, 1, 4]])

    def test_judge_leaves_them(self):
        for call in (judge(0), judge(256), judge(257)):
            self.assertEqual(ask(MARKED, run(9, [1, 1]), call, *ALL_LEFT)[3:], LEFT)

    def test_a_run_leaves_the_ranges(self):
        found = ask(MARKED, judge(7), run(9), tell(0, 2), run(0), tell(2, 3), tell(2, 74))
        self.assertEqual([found[3], found[5], found[6]], [[0, 7, 256], [0, 5, 5], [0, 0, (1 << 64) - 1]])

    def test_a_run_is_no_judgement(self):
        self.assertEqual(ask(MARKED, run(9), tell(0, 0))[2], [-1])

    def test_told_twice(self):
        found = ask(MARKED, run(9, [1, 1]), *ALL_LEFT, *ALL_LEFT)
        self.assertEqual(found[2:], LEFT + LEFT)

    def test_all_of_the_stack(self):
        rows = []
        for piece in range(64):
            number = int.from_bytes(bytes((8 * piece + k) % 251 for k in range(8)), "little")
            rows += [wide(3, number), ins(0x7B, 10, 3, 8 * piece - 512)]
        # 128 instructions hold 42 pieces at most, so it's done from either end.
        low = ask(load(*rows[:80], END), run(), STACK)[2]
        high = ask(load(*rows[48:], END), run(), STACK)[2]
        expected = [place % 251 for place in range(512)]
        self.assertEqual(low, [512] + expected[:320] + [0] * 192)
        self.assertEqual(high, [512] + [0] * 192 + expected[192:])

    def test_of_each_ending(self):
        for row, how in ((END, [0, -1]), (ins(0x71, 3, 0), [1, 2]), (ins(0x05, off=-1), [2, 2]), (ins(0x85), [3, 2])):
            rows = load(ins(0xB7, 3, imm=5), ins(0x72, 10, off=-1, imm=6), row, END)
            found = ask(rows, run(9, [1, 1], [7, 8]), *ALL_LEFT)
            self.assertEqual(found[1][:2], how)
            self.assertEqual(found[2:], LEFT)


if __name__ == "__main__":
    unittest.main()
