"""The examples of the document, byte by byte: judged, told and run."""

import unittest

from tests.helper import ANY, END, ask, ins, judge, load, reg, run, tell, wide

MAX = (1 << 64) - 1
DATA = 1 << 32


class ExamplesTest(unittest.TestCase):
    def test_mov_and_end(self):
        found = ask(load([0xB7, 0, 0, 0, 0x2A, 0, 0, 0], END), judge(0), tell(1, 0), run(2), reg(0))
        self.assertEqual(found, [[0], [0], [0, 42, 42], [0, -1, 0, 0], [42]])

    def test_a_byte_of_data(self):
        code = load([0x71, 0x13, 5, 0, 0, 0, 0, 0], END)
        self.assertEqual(ask(code, judge(6), tell(1, 3), judge(5)), [[0], [0], [0, 0, 255], [1, 0]])
        found = ask(code, run(2, [9, 8, 7, 6, 5, 250]), reg(3), run(2, [9, 8, 7, 6, 5]), reg(3))
        self.assertEqual(found[1:], [[0, -1, 0, 6, 9, 8, 7, 6, 5, 250], [250], [1, 0, 0, 5, 9, 8, 7, 6, 5], [0]])

    def test_a_jump_over_one(self):
        code = load([0x25, 2, 1, 0, 0x0A, 0, 0, 0], ins(0xB7, 3, imm=1), END)
        found = ask(code, judge(0), tell(1, 2), judge(3), tell(1, 2))
        self.assertEqual(found[2::2], [[0, 0, 10], [0, 3, 10]])
        for count in (0, 10, 11, 256):
            self.assertEqual(ask(code, run(9, [0] * count), reg(3))[2], [1 if count <= 10 else 0])

    def test_an_address_on_the_stack(self):
        code = load([0x7B, 0x1A, 0xF8, 0xFF, 0, 0, 0, 0], [0x79, 0xA4, 0xF8, 0xFF, 0, 0, 0, 0], END)
        self.assertEqual(ask(code, judge(0), tell(2, 4)), [[0], [0], [1, 0, 0]])
        self.assertEqual(ask(code, run(9), reg(4))[1:], [[0, -1, 0, 0], [DATA]])

    def test_helper_seven(self):
        code = load([0x85, 0, 0, 0, 7, 0, 0, 0], END)
        self.assertEqual(ask(code, judge(0), tell(1, 0), tell(1, 1)), [[0], [0], ANY, [0, 0, 0]])
        found = ask(code, run(9, [], [3, 0]), reg(0), reg(1))
        self.assertEqual(found[1:], [[0, -1, 1, 7, DATA, 0, 0, 0, 0, 0, 0], [3], [0]])

    def test_numbers(self):
        for rows, number in (
                ([wide(3, MAX), [0xC7, 3, 0, 0, 63, 0, 0, 0]], MAX),
                ([wide(3, 77), [0x37, 3, 0, 0, 0, 0, 0, 0]], 0),
                ([wide(3, 1 << 63), wide(4, MAX), [0x3F, 0x43, 1, 0, 0, 0, 0, 0]], 1 << 63),
                ([wide(3, 0x1234), [0xD4, 3, 0, 0, 16, 0, 0, 0]], 0x1234),
                ([wide(3, 0x1234), [0xDC, 3, 0, 0, 16, 0, 0, 0]], 0x3412)):
            place = sum(len(row) for row in rows) // 8
            found = ask(load(*rows, END), judge(0), tell(place, 3), run(), reg(3))
            self.assertEqual(found[2:], [[0, number, number], [0, -1, 0, 0], [number]])


if __name__ == "__main__":
    unittest.main()
