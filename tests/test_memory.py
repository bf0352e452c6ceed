"""What loads, stores, exchanges and helpers leave known, and what is known at first."""

import unittest

from tests.helper import ANY, END, HALF, LOW, NO_WAY, WORD, Sketch, ask, ins, judge, load, tell, told_of, wide

BYTE = [0, 0, 255]
TWO = [0, 0, 65535]
ZERO = [0, 0, 0]


def piece(place):
    return 11 + place // 8


def known_behind(rows, slots, least=64):
    """The ranges of slots behind the last of rows."""
    place = sum(len(row) for row in rows) // 8
    return told_of([byte for row in rows for byte in row] + END, least, [(place, slot) for slot in slots])


class FirstTest(unittest.TestCase):
    def test_before_the_first(self):
        for least in (0, 1, 255, 256):
            found = told_of(END, least, [(0, slot) for slot in range(75)])
            expected = [ZERO] * 75
            expected[1] = [1, 0, 0]
            expected[2] = [0, least, 256]
            expected[10] = [2, 512, 512]
            self.assertEqual(found, expected)


class LoadTest(unittest.TestCase):
    def test_from_data(self):
        for code, expected in ((0x71, BYTE), (0x69, TWO), (0x61, LOW), (0x79, ANY), (0x91, ANY), (0x89, ANY),
                               (0x81, ANY)):
            self.assertEqual(known_behind([ins(code, 3, 1, 8)], [3]), [expected])
            self.assertEqual(known_behind([ins(code, 1, 1, 8)], [1]), [expected])

    def test_from_the_stack(self):
        for code, expected in ((0x71, BYTE), (0x69, TWO), (0x61, LOW), (0x91, ANY), (0x89, ANY), (0x81, ANY)):
            for off in (-8, -16, -13):
                rows = [ins(0x7A, 10, off=-8, imm=5), ins(code, 3, 10, off)]
                self.assertEqual(known_behind(rows, [3]), [expected])

    def test_a_piece(self):
        for place in (0, 8, 248, 504):
            rows = [ins(0x7A, 10, off=place - 512, imm=5), ins(0x79, 3, 10, place - 512),
                    ins(0x79, 4, 10, (place + 8) % 512 - 512)]
            self.assertEqual(known_behind(rows, [3, 4]), [[0, 5, 5], ZERO])

    def test_eight_bytes_across_pieces(self):
        for off in (-9, -15, -505):
            self.assertEqual(known_behind([ins(0x79, 3, 10, off)], [3]), [ANY])

    def test_place_and_off_together(self):
        rows = [ins(0x7A, 10, off=-16, imm=5), ins(0xBF, 3, 10), ins(0x07, 3, imm=-13), ins(0x79, 4, 3, -3),
                ins(0x79, 5, 3, 5), ins(0x79, 6, 3)]
        self.assertEqual(known_behind(rows, [4, 5, 6]), [[0, 5, 5], ZERO, ANY])

    def test_every_kind_comes_back(self):
        for kind, lo, hi in ((0, 3, 9), (0, 7, 7), (1, 3, 9), (2, 8, 8), (0, 0, WORD - 1)):
            sketch = Sketch()
            sketch.span(3, kind, lo, hi)
            sketch.put(ins(0x7B, 10, 3, -24))
            sketch.put(ins(0x79, 4, 10, -24))
            place = sketch.place()
            sketch.put(END)
            found = told_of(sketch.finished(), 8, [(place, 4), (place, piece(488)), (place, 3)])
            self.assertEqual(found, [[kind, lo, hi]] * 3)

    def test_into_its_own_address(self):
        rows = [ins(0xBF, 3, 10), ins(0x7B, 3, 1, -8), ins(0x79, 3, 3, -8)]
        self.assertEqual(known_behind(rows, [3]), [[1, 0, 0]])


class StoreTest(unittest.TestCase):
    def touched(self, row):
        """The pieces that are any behind a store, all being 0 before."""
        found = known_behind([row], range(11, 75))
        self.assertTrue(all(span in (ANY, ZERO) for span in found))
        return [number for number, span in enumerate(found) if span == ANY]

    def test_a_register(self):
        self.assertEqual(known_behind([ins(0x7B, 10, 2, -8)], [74, 73]), [[0, 64, 256], ZERO])
        self.assertEqual(known_behind([ins(0x7B, 10, 10, -512)], [11, 12]), [[2, 512, 512], ZERO])
        self.assertEqual(known_behind([ins(0x7B, 10, 1, -256)], [42, 43, 44]), [ZERO, [1, 0, 0], ZERO])

    def test_imm(self):
        self.assertEqual(known_behind([ins(0x7A, 10, off=-8, imm=5)], [74]), [[0, 5, 5]])
        self.assertEqual(known_behind([ins(0x7A, 10, off=-8, imm=-1)], [74]), [[0, WORD - 1, WORD - 1]])
        self.assertEqual(known_behind([ins(0x7A, 10, off=-8, imm=-(1 << 31))], [74]),
                         [[0, WORD - (1 << 31), WORD - (1 << 31)]])

    def test_an_imm_that_would_be_an_exchange(self):
        for imm in (1, 0xE1, 0xF1):
            for address, off in ((1, 0), (10, -8)):
                for code in (0x62, 0x7A):
                    found = known_behind([ins(code, address, off=off, imm=imm)], range(11))
                    self.assertEqual(found, known_behind([], range(11)))

    def test_smaller_ones(self):
        for code in (0x73, 0x6B, 0x63, 0x72, 0x6A, 0x62):
            self.assertEqual(self.touched(ins(code, 10, off=-8)), [63])
            self.assertEqual(self.touched(ins(code, 10, off=-12)), [62])
            self.assertEqual(self.touched(ins(code, 10, off=-512)), [0])

    def test_across_pieces(self):
        for code, size in ((0x73, 1), (0x6B, 2), (0x63, 4), (0x7B, 8), (0x72, 1), (0x6A, 2), (0x62, 4), (0x7A, 8)):
            for place in range(8, 25):
                if size == 8 and place % 8 == 0:
                    continue
                expected = sorted({byte // 8 for byte in range(place, place + size)})
                self.assertEqual(self.touched(ins(code, 10, off=place - 512)), expected, (code, place))

    def test_an_address_is_lost_by_a_byte(self):
        rows = [ins(0x7B, 10, 1, -8), ins(0x72, 10, off=-1), ins(0x79, 3, 10, -8)]
        self.assertEqual(known_behind(rows, [3]), [ANY])

    def test_over_another(self):
        rows = [ins(0x62, 10, off=-8, imm=1), ins(0x7A, 10, off=-8, imm=7)]
        self.assertEqual(known_behind(rows, [74]), [[0, 7, 7]])

    def test_a_later_change_of_the_register(self):
        rows = [ins(0xB7, 3, imm=5), ins(0x7B, 10, 3, -8), ins(0xB7, 3, imm=6)]
        self.assertEqual(known_behind(rows, [3, 74]), [[0, 6, 6], [0, 5, 5]])

    def test_in_data_nothing_changes(self):
        for row in (ins(0x7B, 1, 10), ins(0x7A, 1, imm=5), ins(0x73, 1, 2, 9), ins(0xDB, 1, 2, 8), ins(0xC3, 1, 2, 4)):
            before = known_behind([], range(75))
            self.assertEqual(known_behind([row], range(75)), before)


class ExchangeTest(unittest.TestCase):
    def test_the_piece_is_any(self):
        for code in (0xC3, 0xDB):
            for imm in (0, 1, 0x40, 0x41, 0x50, 0x51, 0xA0, 0xA1, 0xE1, 0xF1):
                rows = [ins(0x7A, 10, off=-16, imm=5), ins(code, 10, 3, -16, imm)]
                self.assertEqual(known_behind(rows, [72, 73, 74]), [ZERO, ANY, ZERO], (code, imm))
        for imm in (0, 0xE1, 0xF1):
            self.assertEqual(known_behind([ins(0xC3, 10, 3, -12, imm)], [72, 73, 74]), [ZERO, ANY, ZERO])

    def test_what_it_brings(self):
        for code, expected in ((0xC3, LOW), (0xDB, ANY)):
            for address, off in ((1, 8), (10, -8)):
                for imm in (0, 0x40, 0x50, 0xA0):
                    self.assertEqual(known_behind([ins(code, address, 3, off, imm)], [0, 3]), [ZERO, ZERO])
                for imm in (1, 0x41, 0x51, 0xA1, 0xE1):
                    self.assertEqual(known_behind([ins(code, address, 3, off, imm)], [0, 3]), [ZERO, expected])
                self.assertEqual(known_behind([ins(code, address, 3, off, 0xF1)], [0, 3]), [expected, ZERO])

    def test_an_address_does_not_come_back(self):
        rows = [ins(0x7B, 10, 1, -8), ins(0xDB, 10, 3, -8, 0xE1)]
        self.assertEqual(known_behind(rows, [3, 74]), [ANY, ANY])

    def test_where_src_is_dst(self):
        rows = [ins(0xBF, 3, 1), ins(0xC3, 3, 3, 0, 1)]
        self.assertEqual(known_behind(rows, [3]), [LOW])
        rows = [ins(0xBF, 0, 1), ins(0xC3, 0, 0, 0, 0xF1)]
        self.assertEqual(known_behind(rows, [0]), [LOW])

    def test_addresses_stay_where_they_are_not_written(self):
        self.assertEqual(known_behind([ins(0xDB, 10, 10, -8, 0xF1)], [0, 10]), [ANY, [2, 512, 512]])
        self.assertEqual(known_behind([ins(0xDB, 10, 1, -8, 0)], [1]), [[1, 0, 0]])


class HelperTest(unittest.TestCase):
    def test_registers(self):
        rows = [ins(0xB7, number, imm=number + 1) for number in range(10)] + [ins(0x85, imm=7)]
        found = known_behind(rows, range(11))
        self.assertEqual(found, [ANY] + [ZERO] * 5 + [[0, n + 1, n + 1] for n in range(6, 10)] + [[2, 512, 512]])

    def test_the_stack_stays(self):
        rows = [ins(0x7B, 10, 1, -8), ins(0x7A, 10, off=-16, imm=3), ins(0x85), ins(0x79, 6, 10, -8)]
        self.assertEqual(known_behind(rows, [6, 73, 74]), [[1, 0, 0], [0, 3, 3], [1, 0, 0]])

    def test_any_imm(self):
        for imm in (0, 1, -1, 0x7FFFFFFF, -(1 << 31)):
            self.assertEqual(known_behind([ins(0x85, imm=imm)], [0, 1]), [ANY, ZERO])


class WideTest(unittest.TestCase):
    def test_one_number_of_kind_zero(self):
        for number in (0, HALF, 2 * HALF - 512, WORD - 1, 0x80000000):
            self.assertEqual(known_behind([wide(1, number)], [1]), [[0, number, number]])

    def test_nothing_else_changes(self):
        before = known_behind([], range(75))
        for number in (5, HALF + 5, WORD - 1):
            before[3] = [0, number, number]
            self.assertEqual(known_behind([wide(3, number)], range(75)), before)


class CallTest(unittest.TestCase):
    def test_no_program_and_none_judged(self):
        self.assertEqual(ask(tell(0, 0), load(END), tell(0, 0), judge(0), tell(0, 0))[0::2], [[-1], [-1], ZERO])

    def test_where_no_instruction_begins(self):
        found = ask(load(wide(3, 5), END), judge(0), *[tell(i, 3) for i in (-1, 0, 1, 2, 3, -2, 10 ** 18, -10 ** 18)])
        self.assertEqual(found[2:], [[-1], ZERO, [-1], [0, 5, 5], [-1], [-1], [-1], [-1]])

    def test_which_slot(self):
        found = ask(load(END), judge(0), *[tell(0, r) for r in (-1, 0, 10, 11, 74, 75, 10 ** 18, -10 ** 18)])
        self.assertEqual(found[2:], [[-1], ZERO, [2, 512, 512], ZERO, ZERO, [-1], [-1], [-1]])

    def test_no_way_is_told_alone(self):
        found = ask(load(END, END), judge(0), tell(1, 0), tell(1, 74), tell(1, 75), tell(2, 0))
        self.assertEqual(found[2:], [NO_WAY, NO_WAY, [-1], [-1]])


if __name__ == "__main__":
    unittest.main()
