"""Judge: what's good and what isn't, and at which place."""

import unittest

from tests.helper import END, NO_WAY, Sketch, ask, ins, judge, load, tell, wide


def verdict(least, *rows):
    found = ask(load(*rows), judge(least))
    assert found[0] == [0], found
    return found[1]


def verdict_of(sketch, least=8):
    return verdict(least, sketch.finished())


def verdict_at(code, kind, lo, hi, off, least, imm=0):
    """Of one instruction at register 4's address, which is asked of as place 0."""
    sketch = Sketch()
    sketch.span(4, kind, lo, hi)
    place = sketch.place()
    sketch.put(ins(code, 3, 4, off, imm) if code & 7 == 1 else ins(code, 4, 0, off, imm))
    found = verdict(least, sketch.finished())
    return found if found == [0] else [1, found[1] - place]


LOADS = {0x71: 1, 0x69: 2, 0x61: 4, 0x79: 8, 0x91: 1, 0x89: 2, 0x81: 4}
STORES = {0x73: 1, 0x6B: 2, 0x63: 4, 0x7B: 8, 0x72: 1, 0x6A: 2, 0x62: 4, 0x7A: 8}
EXCHANGES = {0xC3: 4, 0xDB: 8}
SIZES = {**LOADS, **STORES, **EXCHANGES}


class CallTest(unittest.TestCase):
    def test_no_program(self):
        self.assertEqual(ask(judge(0), judge(-1), judge(257)), [[-1], [-1], [-1]])

    def test_least(self):
        for least in (0, 1, 255, 256):
            self.assertEqual(verdict(least, END), [0])
        for least in (-1, 257, 10 ** 18, -10 ** 18):
            self.assertEqual(verdict(least, END), [-2])

    def test_a_refusal_changes_nothing(self):
        found = ask(load(END), judge(7), judge(257), tell(0, 2), judge(-1), tell(0, 2))
        self.assertEqual(found[2:], [[-2], [0, 7, 256], [-2], [0, 7, 256]])

    def test_a_refusal_leaves_none_judged(self):
        self.assertEqual(ask(load(END), judge(257), tell(0, 2))[2], [-1])

    def test_the_last_judge_is_told(self):
        found = ask(load(END), judge(7), tell(0, 2), judge(9), tell(0, 2), judge(7), tell(0, 2))
        self.assertEqual(found[2::2], [[0, 7, 256], [0, 9, 256], [0, 7, 256]])

    def test_one_that_is_not_good_is_told_too(self):
        found = ask(load(ins(0x71, 3, 1), END), judge(0), tell(0, 1), tell(1, 1))
        self.assertEqual(found[1:], [[1, 0], [1, 0, 0], NO_WAY])


class JumpTest(unittest.TestCase):
    def test_back(self):
        self.assertEqual(verdict(0, ins(0xB7), ins(0x05, off=-2)), [1, 1])
        self.assertEqual(verdict(0, ins(0xB7), ins(0x06, imm=-2)), [1, 1])
        self.assertEqual(verdict(0, ins(0xB7), ins(0x15, off=-2), END), [1, 1])

    def test_to_itself(self):
        self.assertEqual(verdict(0, ins(0x05, off=-1)), [1, 0])
        self.assertEqual(verdict(0, ins(0x06, imm=-1)), [1, 0])
        self.assertEqual(verdict(0, ins(0x45, off=-1), END), [1, 0])

    def test_to_the_next(self):
        self.assertEqual(verdict(0, ins(0x05), END), [0])
        self.assertEqual(verdict(0, ins(0x06), END), [0])
        self.assertEqual(verdict(0, ins(0x15), END), [0])

    def test_back_whether_or_not_it_would_be_gone(self):
        # Register 3 is 0, so it isn't 1.
        self.assertEqual(verdict(0, ins(0x15, 3, off=-1, imm=1), END), [1, 0])
        self.assertEqual(verdict(0, ins(0xB7), ins(0x15, 3, off=-2, imm=1), END), [1, 1])

    def test_back_where_no_way_leads(self):
        self.assertEqual(verdict(0, END, ins(0x05, off=-1)), [0])
        self.assertEqual(verdict(0, ins(0x15, 3, off=1), ins(0x05, off=-2), END), [0])

    def test_not_followed_from_a_jump_back(self):
        found = ask(load(ins(0x15, 3, off=-1, imm=1), END), judge(0), tell(0, 3), tell(1, 3))
        self.assertEqual(found[2:], [[0, 0, 0], NO_WAY])
        found = ask(load(END, ins(0x05, off=-2)), judge(0), tell(1, 3))
        self.assertEqual(found[2], NO_WAY)

    def test_other_ways_are_followed(self):
        rows = [ins(0x45, 2, off=1, imm=1), ins(0x05, off=-2), ins(0x71, 3, 1), END]
        found = ask(load(*rows), judge(0), tell(1, 3), tell(2, 3), tell(3, 3))
        self.assertEqual(found[1:], [[1, 1], [0, 0, 0], [0, 0, 0], NO_WAY])


class LeastPlaceTest(unittest.TestCase):
    def test_the_least_of_several(self):
        rows = [ins(0x45, 2, off=2, imm=1), ins(0x71, 3, 3), END, ins(0x71, 3, 3), END]
        self.assertEqual(verdict(0, *rows), [1, 1])
        rows = [ins(0x45, 2, off=2, imm=1), ins(0x71, 3, 1), END, ins(0x71, 3, 3), END]
        self.assertEqual(verdict(0, *rows), [1, 1])
        self.assertEqual(verdict(1, *rows), [1, 3])

    def test_a_place_counts_second_halves(self):
        self.assertEqual(verdict(0, wide(3, 5), ins(0x71, 3, 3), END), [1, 2])

    def test_none_behind_a_wrong_one(self):
        found = ask(load(ins(0xB7), ins(0x71, 3, 3), ins(0x71, 3, 4), END), judge(0), tell(2, 3), tell(1, 3))
        self.assertEqual(found[1:], [[1, 1], NO_WAY, [0, 0, 0]])

    def test_where_no_way_leads(self):
        self.assertEqual(verdict(0, END, ins(0x71, 3, 3), END), [0])
        self.assertEqual(verdict(0, ins(0x05, off=1), ins(0x71, 3, 3), END), [0])
        # Register 2 is 256 at most, and 4 at least.
        self.assertEqual(verdict(4, ins(0x25, 2, off=1, imm=256), END, ins(0x71, 3, 3), END), [0])
        self.assertEqual(verdict(4, ins(0xA5, 2, off=1, imm=4), END, ins(0x71, 3, 3), END), [0])
        self.assertEqual(verdict(4, ins(0xA5, 2, off=1, imm=5), END, ins(0x71, 3, 3), END), [1, 2])


class DataTest(unittest.TestCase):
    def test_both_ends(self):
        for code, size in SIZES.items():
            with self.subTest(code=hex(code)):
                self.assertEqual(verdict_at(code, 1, 0, 0, 0, max(size, 8)), [0])
                self.assertEqual(verdict_at(code, 1, 0, 0, -size, 8), [1, 0])
                self.assertEqual(verdict_at(code, 1, 16, 16, -16, 8), [0])
                self.assertEqual(verdict_at(code, 1, 16, 16, -16 - size, 8), [1, 0])
                self.assertEqual(verdict_at(code, 1, 0, 0, 16 - size, 16), [0])
                self.assertEqual(verdict_at(code, 1, 0, 0, 16 - size, 15), [1, 0])
                self.assertEqual(verdict_at(code, 1, 0, 0, 256 - size, 256), [0])
                self.assertEqual(verdict_at(code, 1, 0, 0, 256, 256), [1, 0])

    def test_no_data(self):
        for code in LOADS:
            self.assertEqual(verdict(0, ins(code, 3, 1), END), [1, 0])
            self.assertEqual(verdict(LOADS[code] - 1, ins(code, 3, 1), END), [1, 0])
            self.assertEqual(verdict(LOADS[code], ins(code, 3, 1), END), [0])

    def test_both_ends_of_a_range(self):
        for code in list(LOADS) + list(STORES):
            size = SIZES[code]
            self.assertEqual(verdict_at(code, 1, 3, 20, -3, 17 + size), [0])
            self.assertEqual(verdict_at(code, 1, 3, 20, -3, 16 + size), [1, 0])
            self.assertEqual(verdict_at(code, 1, 3, 20, -4, 256), [1, 0])

    def test_a_length_that_is_checked(self):
        # The data's bytes are loaded if the program has asked that there be so many; the rules don't follow that.
        rows = [ins(0xA5, 2, off=1, imm=8), ins(0x79, 3, 1), END]
        self.assertEqual(verdict(0, *rows), [1, 1])
        self.assertEqual(verdict(8, *rows), [0])

    def test_numbers_are_no_addresses(self):
        self.assertEqual(verdict(256, wide(3, 1 << 32), ins(0x71, 4, 3), END), [1, 2])
        self.assertEqual(verdict(256, wide(3, (1 << 33) - 8), ins(0x79, 4, 3), END), [1, 2])
        self.assertEqual(verdict(256, ins(0x71, 4, 2), END), [1, 0])
        self.assertEqual(verdict(256, ins(0x85), ins(0x71, 4, 0), END), [1, 1])
        self.assertEqual(verdict(256, ins(0x85), ins(0x71, 4, 1), END), [1, 1])


class StackTest(unittest.TestCase):
    def test_both_ends(self):
        for code, size in SIZES.items():
            with self.subTest(code=hex(code)):
                self.assertEqual(verdict_at(code, 2, 512, 512, -size, 0), [0])
                self.assertEqual(verdict_at(code, 2, 512, 512, 0, 0), [1, 0])
                self.assertEqual(verdict_at(code, 2, 512, 512, -512, 0), [0])
                self.assertEqual(verdict_at(code, 2, 512, 512, -512 - size, 0), [1, 0])
                self.assertEqual(verdict_at(code, 2, 0, 0, 0, 0), [0])
                self.assertEqual(verdict_at(code, 2, 0, 0, 512 - size, 0), [0])
                self.assertEqual(verdict_at(code, 2, 0, 0, 512, 0), [1, 0])
                self.assertEqual(verdict_at(code, 2, 0, 0, -size, 0), [1, 0])

    def test_by_one_byte(self):
        for code, size in SIZES.items():
            if code not in EXCHANGES:
                self.assertEqual(verdict_at(code, 2, 0, 0, -1, 0), [1, 0])
                self.assertEqual(verdict_at(code, 2, 0, 0, 513 - size, 0), [1, 0])
                self.assertEqual(verdict_at(code, 2, 256, 256, 257 - size, 0), [1, 0])
                self.assertEqual(verdict_at(code, 2, 256, 256, 256 - size, 0), [0])
                self.assertEqual(verdict_at(code, 2, 256, 256, -256, 0), [0])
                self.assertEqual(verdict_at(code, 2, 256, 256, -257, 0), [1, 0])

    def test_a_store_of_an_address_is_no_matter(self):
        self.assertEqual(verdict(0, ins(0x7B, 10, 1, -8), END), [0])
        self.assertEqual(verdict(0, ins(0x7B, 1, 10, -8), END), [1, 0])


class ExchangeTest(unittest.TestCase):
    def test_a_multiple_of_the_size(self):
        for code, size in EXCHANGES.items():
            for off in range(0, 24):
                expected = [0] if off % size == 0 else [1, 0]
                self.assertEqual(verdict_at(code, 1, 0, 0, off, 64), expected, off)
                self.assertEqual(verdict_at(code, 2, 0, 0, off, 64), expected, off)

    def test_place_and_off_together(self):
        for code, size in EXCHANGES.items():
            for kind in (1, 2):
                self.assertEqual(verdict_at(code, kind, 3, 3, size - 3, 64), [0])
                self.assertEqual(verdict_at(code, kind, size, size, 1, 64), [1, 0])
                self.assertEqual(verdict_at(code, kind, size + 1, size + 1, -1, 64), [0])

    def test_of_one_number(self):
        for code, size in EXCHANGES.items():
            self.assertEqual(verdict_at(code, 1, 8, 8, 0, 64), [0])
            self.assertEqual(verdict_at(code, 1, 8, 9, 0, 64), [1, 0])
            self.assertEqual(verdict_at(code, 1, 8, 16, 0, 64), [1, 0])
            self.assertEqual(verdict_at(code, 1, 0, 8, 0, 64), [1, 0])

    def test_every_way_of_it(self):
        for code in EXCHANGES:
            for imm in (0, 1, 0x40, 0x41, 0x50, 0x51, 0xA0, 0xA1, 0xE1, 0xF1):
                self.assertEqual(verdict_at(code, 1, 8, 8, 0, 16, imm), [0])
                self.assertEqual(verdict_at(code, 1, 8, 8, 2, 64, imm), [1, 0])
                self.assertEqual(verdict_at(code, 1, 8, 8, 8, 16, imm), [1, 0])

    def test_plain_stores_need_no_multiple(self):
        for code in STORES:
            self.assertEqual(verdict_at(code, 2, 0, 0, 1, 0), [0])
            self.assertEqual(verdict_at(code, 1, 0, 0, 1, 64), [0])


if __name__ == "__main__":
    unittest.main()
