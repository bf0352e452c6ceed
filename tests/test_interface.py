"""The interface: judgedprograms.machine.answers, its list of calls and its list of answers."""

import unittest

from judgedprograms.machine import answers
from tests.helper import END, ins, judge, load, program, tell, wide


class Watched(list):
    """A list that fails where it would be changed, be it for a while."""

    def refuse(self, *given, **named):
        raise AssertionError("what is handed in is changed")

    append = extend = insert = pop = remove = clear = sort = reverse = refuse
    __setitem__ = __delitem__ = __iadd__ = __imul__ = refuse


class AnswersTest(unittest.TestCase):
    def test_an_empty_list(self):
        self.assertEqual(answers([]), [])

    def test_counts_stand_ahead(self):
        calls = load(ins(0xB7, 3, imm=42), END, END) + judge(0) + tell(1, 3) + tell(2, 3) + tell(3, 3)
        self.assertEqual(answers(calls), [1, 0, 1, 0, 3, 0, 42, 42, 1, 3, 1, -1])

    def test_refusals(self):
        self.assertEqual(answers(judge(0) + judge(300) + tell(0, 0)), [1, -1, 1, -1, 1, -1])
        self.assertEqual(answers(load() + load([1]) + load(END, ins(0xFF))), [1, -1, 1, -1, 2, -2, 1])
        self.assertEqual(answers(load(ins(0xB7, 10)) + load(ins(0x05, off=7))), [2, -3, 0, 2, -4, 0])
        self.assertEqual(answers(load(END) + judge(257) + judge(-1)), [1, 0, 1, -2, 1, -2])

    def test_not_good(self):
        self.assertEqual(answers(load(ins(0x71, 3, 1), END) + judge(0) + judge(1)), [1, 0, 2, 1, 0, 1, 0])

    def test_bytes_that_look_like_calls(self):
        self.assertEqual(answers(load([2, 0, 0]) + load([1, 5]) + judge(0)), [1, -1, 1, -1, 1, -1])

    def test_whole_numbers_and_a_list(self):
        found = answers(load(ins(0x25, 2, off=0, imm=3), END) + judge(1) + tell(1, 2) + tell(1, 10))
        self.assertIs(type(found), list)
        self.assertEqual({type(number) for number in found}, {int})

    def test_what_is_handed_in_stays(self):
        calls = load(wide(3, 1 << 40), ins(0x79, 4, 1), END) + judge(8) + tell(3, 4) + load([300] * 8) + tell(0, 1)
        before = list(calls)
        watched = Watched(calls)
        found = answers(watched)
        self.assertEqual(list(watched), before)
        self.assertEqual(answers(calls), found)
        self.assertEqual(calls, before)

    def test_the_answer_is_a_new_list(self):
        calls = load(END) + judge(0) + tell(0, 1)
        first = answers(calls)
        first.append(7)
        self.assertEqual(answers(calls), [1, 0, 1, 0, 3, 1, 0, 0])

    def test_nothing_is_kept(self):
        self.assertEqual(answers(load(END) + judge(0)), [1, 0, 1, 0])
        self.assertEqual(answers(judge(0) + tell(0, 0)), [1, -1, 1, -1])

    def test_four_hundred_calls(self):
        calls = load(END) + judge(5)
        for slot in range(398):
            calls += tell(0, slot % 75)
        found = answers(calls)
        self.assertEqual(len(found), 4 + 4 * 398)

    def test_long_programs(self):
        rows = [ins(0x07, 3, imm=1)] * 127 + [END]
        found = answers(load(*rows) + judge(0) + tell(127, 3))
        self.assertEqual(found, [1, 0, 1, 0, 3, 0, 127, 127])
        rows = [ins(0x45, 2, off=0, imm=1)] * 127 + [END]
        self.assertEqual(answers(load(*rows) + judge(0) + tell(127, 2)), [1, 0, 1, 0, 3, 0, 0, 256])

    def test_many_loads(self):
        calls = []
        for turn in range(15):
            calls += load(*[END] * 128)
        self.assertEqual(answers(calls), [1, 0] * 15)
        self.assertEqual(len(program(*[END] * 128)), 1024)


if __name__ == "__main__":
    unittest.main()
