"""The interface: judgedprograms.machine.answers, its list of calls and its list of answers."""

import unittest

from judgedprograms.machine import answers
from tests.helper import END, STACK, ins, judge, load, program, reg, run, tell, wide


class Watched(list):
    """A list that fails where it would be changed, be it for a while."""

    def refuse(self, *given, **named):
        raise AssertionError("what is handed in is changed")

    append = extend = insert = pop = remove = clear = sort = reverse = refuse
    __setitem__ = __delitem__ = __iadd__ = __imul__ = refuse


class AnswersTest(unittest.TestCase):
    def test_an_empty_list(self):
        self.assertEqual(answers([]), [])

    def test_counts_stand_ahead(self):
        calls = load(ins(0xB7, 3, imm=42), END, END) + judge(0) + tell(1, 3) + tell(2, 3) + tell(3, 3)
        self.assertEqual(answers(calls), [1, 0, 1, 0, 3, 0, 42, 42, 1, 3, 1, -1])

    def test_refusals(self):
        self.assertEqual(answers(judge(0) + judge(300) + tell(0, 0)), [1, -1, 1, -1, 1, -1])
        self.assertEqual(answers(load() + load([1]) + load(END, ins(0xFF))), [1, -1, 1, -1, 2, -2, 1])
        self.assertEqual(answers(load(ins(0xB7, 10)) + load(ins(0x05, off=7))), [2, -3, 0, 2, -4, 0])
        self.assertEqual(answers(load(END) + judge(257) + judge(-1)), [1, 0, 1, -2, 1, -2])

    def test_refusals_of_runs(self):
        calls = run(5) + reg(0) + STACK + load(END) + reg(0) + STACK + run(2001) + run(5, [256]) + run(5, [], [1])
        self.assertEqual(answers(calls), [1, -1, 1, -1, 1, -1, 1, 0, 1, -1, 1, -1, 1, -2, 1, -2, 1, -2])
        self.assertEqual(answers(load(END) + run(1) + reg(11) + reg(-1) + reg(10)),
                         [1, 0, 4, 0, -1, 0, 0, 1, -1, 1, -1, 1, 1 << 33])

    def test_runs(self):
        """How it ended, the place, how many helpers, seven numbers for each, how many bytes, they."""
        code = load(ins(0x72, 1, off=1, imm=9), ins(0x72, 10, off=-1, imm=5), ins(0x85, imm=-1), END)
        found = answers(code + run(4, [7, 8, 6], [3, 0]) + reg(0) + STACK + run(3, [1, 2], [3, 4]))
        self.assertEqual(found[:2], [1, 0])
        self.assertEqual(found[2:17], [14, 0, -1, 1, (1 << 32) - 1, 1 << 32, 3, 0, 0, 0, 0, 3, 7, 9, 6])
        self.assertEqual(found[17:19], [1, 3])
        self.assertEqual(found[19:533], [513, 512] + [0] * 511 + [5])
        self.assertEqual(found[533:], [13, 3, 2, 1, (1 << 32) - 1, 1 << 32, 2, 0, 0, 0, 0, 2, 1, 9])

    def test_calls_of_all_kinds(self):
        calls = (reg(0) + load(ins(0x71, 3, 1, 1), ins(0x07, 3, imm=1), END) + run(9, [4, 5]) + judge(2) + tell(2, 3)
                 + reg(3) + run(1, [4, 6]) + reg(3) + judge(1) + tell(1, 3) + run(9, [4]) + reg(3)
                 + load(ins(0x05, off=-1), END) + reg(3) + tell(0, 0) + judge(0) + tell(0, 0) + run(7) + reg(1))
        told = [[-1], [0], [0, -1, 0, 2, 4, 5], [0], [0, 1, 256], [6], [2, 1, 0, 2, 4, 6], [6], [1, 0], [3],
                [1, 0, 0, 1, 4], [0], [0], [-1], [-1], [1, 0], [0, 0, 0], [2, 0, 0, 0], [1 << 32]]
        self.assertEqual(answers(calls), [number for row in told for number in [len(row)] + row])

    def test_rows_that_look_like_calls(self):
        calls = load(END) + run(1, [3, 1, 0, 0], [5, 4, 3, 2]) + run(1, [5], [5, 5]) + reg(2)
        self.assertEqual(answers(calls), [1, 0, 8, 0, -1, 0, 4, 3, 1, 0, 0, 5, 0, -1, 0, 1, 5, 1, 1])

    def test_not_good(self):
        self.assertEqual(answers(load(ins(0x71, 3, 1), END) + judge(0) + judge(1)), [1, 0, 2, 1, 0, 1, 0])

    def test_bytes_that_look_like_calls(self):
        self.assertEqual(answers(load([2, 0, 0]) + load([1, 5]) + judge(0)), [1, -1, 1, -1, 1, -1])

    def test_whole_numbers_and_a_list(self):
        found = answers(load(ins(0x25, 2, off=0, imm=3), END) + judge(1) + tell(1, 2) + tell(1, 10))
        self.assertIs(type(found), list)
        self.assertEqual({type(number) for number in found}, {int})
        code = load(ins(0x85, imm=-1), ins(0x1D, 3, 4), ins(0x79, 3, 10, -8), ins(0xDB, 10, 3, -8, 0xF1), END)
        found = answers(code + run(9, [1, 2], [3, 0]) + reg(0) + reg(3) + reg(10) + STACK)
        self.assertEqual({type(number) for number in found}, {int})

    def test_what_is_handed_in_stays(self):
        calls = load(wide(3, 1 << 40), ins(0x79, 4, 1), END) + judge(8) + tell(3, 4) + load([300] * 8) + tell(0, 1)
        before = list(calls)
        watched = Watched(calls)
        found = answers(watched)
        self.assertEqual(list(watched), before)
        self.assertEqual(answers(calls), found)
        self.assertEqual(calls, before)

    def test_what_is_handed_to_runs_stays(self):
        calls = (load(ins(0x85), wide(1, 1 << 32), ins(0x7A, 1, imm=-1), ins(0xDB, 1, 3), END)
                 + run(9, [1] * 8, [5, 0, 6, 1]) + run(9, [2] * 9, [5, 1]) + run(2001, [1, 2], [5]) + reg(3) + STACK)
        before = list(calls)
        watched = Watched(calls)
        found = answers(watched)
        self.assertEqual(list(watched), before)
        self.assertEqual(answers(calls), found)
        self.assertEqual(calls, before)

    def test_one_run_does_not_change_what_another_told(self):
        code = load(ins(0x07, 3, imm=1), ins(0x73, 1, 2), ins(0x73, 10, 2, -1), END)
        once = answers(code + run(9, [5]) + STACK)
        twice = answers(code + run(9, [5]) + STACK + run(9, [6, 7]) + STACK)
        self.assertEqual(twice[:len(once)], once)

    def test_the_answer_is_a_new_list(self):
        calls = load(END) + judge(0) + tell(0, 1)
        first = answers(calls)
        first.append(7)
        self.assertEqual(answers(calls), [1, 0, 1, 0, 3, 1, 0, 0])

    def test_nothing_is_kept(self):
        self.assertEqual(answers(load(END) + judge(0)), [1, 0, 1, 0])
        self.assertEqual(answers(judge(0) + tell(0, 0)), [1, -1, 1, -1])
        answers(load(ins(0x72, 10, off=-1, imm=1), ins(0xB7, 3, imm=1), END) + run(9, [1]))
        self.assertEqual(answers(reg(3) + STACK + run(9)), [1, -1, 1, -1, 1, -1])
        self.assertEqual(answers(load(END) + run(9) + reg(3) + STACK)[7:], [1, 0, 513, 512] + [0] * 512)

    def test_many_long_runs(self):
        calls = load(ins(0x07, 3, imm=1), ins(0x05, off=-2)) + run(2000) * 398 + reg(3)
        self.assertEqual(answers(calls), [1, 0] + [4, 2, 0, 0, 0] * 398 + [1, 1000])

    def test_four_hundred_calls(self):
        calls = load(END) + judge(5)
        for slot in range(398):
            calls += tell(0, slot % 75)
        found = answers(calls)
        self.assertEqual(len(found), 4 + 4 * 398)

    def test_long_programs(self):
        rows = [ins(0x07, 3, imm=1)] * 127 + [END]
        found = answers(load(*rows) + judge(0) + tell(127, 3))
        self.assertEqual(found, [1, 0, 1, 0, 3, 0, 127, 127])
        rows = [ins(0x45, 2, off=0, imm=1)] * 127 + [END]
        self.assertEqual(answers(load(*rows) + judge(0) + tell(127, 2)), [1, 0, 1, 0, 3, 0, 0, 256])

    def test_many_loads(self):
        calls = []
        for turn in range(15):
            calls += load(*[END] * 128)
        self.assertEqual(answers(calls), [1, 0] * 15)
        self.assertEqual(len(program(*[END] * 128)), 1024)


if __name__ == "__main__":
    unittest.main()
