"""Promise 1: every program is read or refused at its first wrong instruction."""

import unittest

from tests.helper import END, ask, ins, judge, load, tell, wide

# For each code that there is, the fields that are named with it.
ARITHMETIC = [0, 1, 2, 3, 4, 5, 6, 7, 9, 10, 11, 12]
COMPARED = [1, 2, 3, 4, 5, 6, 7, 10, 11, 12, 13]

NAMED = {0x05: "off", 0x06: "imm", 0x85: "imm", 0x95: "", 0x87: "dst", 0x84: "dst"}
for group in (4, 7):
    for op in ARITHMETIC:
        NAMED[16 * op + group] = "dst imm"
        NAMED[16 * op + 8 + group] = "dst src"
for group in (5, 6):
    for op in COMPARED:
        NAMED[16 * op + group] = "dst off imm"
        NAMED[16 * op + 8 + group] = "dst src off"
for code in (0x61, 0x69, 0x71, 0x79, 0x81, 0x89, 0x91, 0x63, 0x6B, 0x73, 0x7B, 0xC3, 0xDB):
    NAMED[code] = "dst src off"
for code in (0x62, 0x6A, 0x72, 0x7A):
    NAMED[code] = "dst off imm"
SWAPS = (0xD7, 0xD4, 0xDC)
SIGNED = (0x37, 0x3F, 0x34, 0x3C, 0x97, 0x9F, 0x94, 0x9C)


def answer(*rows):
    return ask(load(*rows))[0]


def alone(row):
    """The answer to a program that begins with one instruction and goes on well behind it."""
    return answer(row, END, END, END)


class CodeTest(unittest.TestCase):
    def test_every_code(self):
        for code in range(256):
            if code in SWAPS or code == 0x18:
                continue
            found = alone(ins(code))
            self.assertEqual(found, [0] if code in NAMED else [-2, 0], hex(code))

    def test_what_is_named_is_taken(self):
        for code, named in NAMED.items():
            with self.subTest(code=hex(code)):
                for field, value in (("dst", 9), ("src", 9), ("off", 1)):
                    if field in named.split():
                        self.assertEqual(alone(ins(code, **{field: value})), [0])
                if "imm" in named.split() and code != 0x06:
                    for imm in (1, -1, 0x7FFFFFFF, -0x80000000):
                        self.assertEqual(alone(ins(code, imm=imm)), [0])

    def test_what_is_not_named_is_zero(self):
        for code, named in NAMED.items():
            with self.subTest(code=hex(code)):
                for field in ("dst", "src", "off", "imm"):
                    if field in named.split() or (field == "imm" and code in (0xC3, 0xDB)):
                        continue
                    values = (2, -1, 15) if field in ("off", "imm") else (1, 10, 15)
                    for value in values:
                        self.assertEqual(alone(ins(code, **{field: value})), [-2, 0], (field, value))

    def test_signed_division_is_off_one(self):
        for code in NAMED:
            if code & 7 in (4, 7):
                self.assertEqual(alone(ins(code, off=1)), [0] if code in SIGNED else [-2, 0], hex(code))

    def test_moves_with_sign(self):
        for off in range(-2, 70):
            self.assertEqual(alone(ins(0xBF, 1, 2, off)), [0] if off in (0, 8, 16, 32) else [-2, 0], off)
            self.assertEqual(alone(ins(0xBC, 1, 2, off)), [0] if off in (0, 8, 16) else [-2, 0], off)
            self.assertEqual(alone(ins(0xB7, 1, 0, off)), [0] if off == 0 else [-2, 0], off)
            self.assertEqual(alone(ins(0xB4, 1, 0, off)), [0] if off == 0 else [-2, 0], off)
        self.assertEqual(alone(ins(0xBF, 1, 2, 8, 1)), [-2, 0])
        self.assertEqual(alone(ins(0xBF, 1, 2, 256 + 8)), [-2, 0])

    def test_swaps(self):
        for code in SWAPS:
            for imm in (0, 8, 15, 16, 24, 32, 48, 64, 128, -16, 0x10000 + 16):
                self.assertEqual(alone(ins(code, 9, imm=imm)), [0] if imm in (16, 32, 64) else [-2, 0], (code, imm))
            self.assertEqual(alone(ins(code, 1, 2, imm=16)), [-2, 0])
            self.assertEqual(alone(ins(code, 1, off=1, imm=16)), [-2, 0])
        self.assertEqual(alone(ins(0xDF, 1, imm=16)), [-2, 0])

    def test_exchanges(self):
        taken = (0, 1, 0x40, 0x41, 0x50, 0x51, 0xA0, 0xA1, 0xE1, 0xF1)
        for code in (0xC3, 0xDB):
            for imm in list(range(-2, 300)) + [0x10000, 0x1000001]:
                self.assertEqual(alone(ins(code, 1, 2, 8, imm)), [0] if imm in taken else [-2, 0], imm)
        for code in (0xCB, 0xD3):
            self.assertEqual(alone(ins(code, 1, 2)), [-2, 0])

    def test_no_load_of_eight_bytes_with_sign(self):
        self.assertEqual(alone(ins(0x99, 1, 2)), [-2, 0])

    def test_ends_and_helpers_in_class_five_alone(self):
        for code in (0x86, 0x96, 0x8D, 0x9D, 0x8E, 0x9E, 0x0D, 0x0E):
            self.assertEqual(alone(ins(code)), [-2, 0], hex(code))


class SizeTest(unittest.TestCase):
    def test_no_bytes(self):
        self.assertEqual(answer(), [-1])

    def test_not_eight_for_each(self):
        for count in (1, 7, 9, 15, 17):
            self.assertEqual(answer([0x95] + [0] * (count - 1)), [-1])

    def test_how_many(self):
        self.assertEqual(answer(END), [0])
        self.assertEqual(answer(*[END] * 128), [0])
        self.assertEqual(answer(*[END] * 129), [-1])
        self.assertEqual(answer([0] * 10000), [-1])

    def test_no_byte(self):
        for number in (-1, 256, 10 ** 18, -10 ** 18):
            for place in (0, 5, 15):
                code = END + END
                code[place] = number
                self.assertEqual(answer(code), [-1])

    def test_goes_ahead_of_wrong_instructions(self):
        self.assertEqual(answer(ins(0xFF), [0x95] + [0] * 6 + [256]), [-1])
        self.assertEqual(answer(ins(0xFF), [0]), [-1])
        self.assertEqual(answer(*[ins(0xFF)] * 129), [-1])


class RegisterTest(unittest.TestCase):
    def test_above_ten(self):
        for number in range(11, 16):
            for row in (ins(0x07, number), ins(0x0F, 1, number), ins(0x15, number), ins(0x1D, 1, number),
                        ins(0x61, number, 1), ins(0x61, 1, number), ins(0x63, 1, number), ins(0x62, number),
                        ins(0xC3, number), ins(0xC3, 1, number), ins(0x87, number), ins(0xD4, number, imm=16)):
                self.assertEqual(alone(row), [-3, 0], row)

    def test_ten_is_not_written(self):
        for code, named in NAMED.items():
            if code & 7 in (1, 4, 7):
                self.assertEqual(alone(ins(code, 10)), [-3, 0], hex(code))
        for code in SWAPS:
            self.assertEqual(alone(ins(code, 10, imm=32)), [-3, 0])
        self.assertEqual(answer(wide(10, 7), END), [-3, 0])

    def test_ten_is_read(self):
        for row in (ins(0xBF, 1, 10), ins(0x0F, 1, 10), ins(0x1D, 1, 10), ins(0x15, 10), ins(0x61, 1, 10),
                    ins(0x63, 10, 10), ins(0x62, 10), ins(0xDB, 10, 1), ins(0x1D, 10, 10)):
            self.assertEqual(alone(row), [0], row)

    def test_exchanges_that_write_ten(self):
        for code in (0xC3, 0xDB):
            for imm in (0, 0x40, 0x50, 0xA0, 0xF1):
                self.assertEqual(alone(ins(code, 10, 10, -8, imm)), [0], imm)
            for imm in (1, 0x41, 0x51, 0xA1, 0xE1):
                self.assertEqual(alone(ins(code, 10, 10, -8, imm)), [-3, 0], imm)
                self.assertEqual(alone(ins(code, 10, 9, -8, imm)), [0], imm)


class WayTest(unittest.TestCase):
    def test_behind_the_last(self):
        for row in (ins(0xB7), ins(0x15), ins(0x85), ins(0x61, 1, 1), ins(0x62, 1), ins(0xDB, 1), ins(0x84, 1)):
            self.assertEqual(answer(row), [-4, 0])
            self.assertEqual(answer(END, row), [-4, 1])
        self.assertEqual(answer(wide(1, 5)), [-4, 0])
        self.assertEqual(answer(END, wide(1, 5)), [-4, 1])

    def test_a_comparison_that_is_not_so_goes_on_behind_the_last(self):
        for code in (0x15, 0x1D, 0x26, 0xDE, 0x45):
            self.assertEqual(answer(ins(code, off=-1)), [-4, 0])
            self.assertEqual(answer(END, ins(code, off=-2)), [-4, 1])

    def test_a_jump_or_end_may_be_last(self):
        self.assertEqual(answer(END), [0])
        self.assertEqual(answer(ins(0x05, off=-1)), [0])
        self.assertEqual(answer(ins(0x06, imm=-1)), [0])
        self.assertEqual(answer(END, ins(0x05, off=-2)), [0])

    def test_how_far_a_jump_goes(self):
        for code, field in ((0x05, "off"), (0x06, "imm"), (0x15, "off"), (0x1E, "off"), (0xDD, "off"), (0x45, "off")):
            for far in range(-5, 5):
                row = ins(code, **{field: far})
                found = answer(END, END, row, END, END)
                self.assertEqual(found, [0] if -3 <= far <= 1 else [-4, 2], (code, far))

    def test_by_imm_goes_by_thirty_two_bits(self):
        for far in (65536, -65536, 0x7FFFFFFF, -0x80000000):
            self.assertEqual(answer(ins(0x06, imm=far), END), [-4, 0])
        self.assertEqual(answer(ins(0x05, off=0x7FFF), END), [-4, 0])

    def test_one_hundred_twenty_eight(self):
        self.assertEqual(answer(ins(0x05, off=126), *[END] * 127), [0])
        self.assertEqual(answer(ins(0x05, off=127), *[END] * 127), [-4, 0])
        self.assertEqual(answer(*[END] * 127, ins(0x05, off=-128)), [0])
        self.assertEqual(answer(*[END] * 127, ins(0x05, off=-129)), [-4, 127])

    def test_into_a_second_half(self):
        self.assertEqual(answer(ins(0x05, off=1), wide(1, 5), END), [-4, 0])
        self.assertEqual(answer(ins(0x15, off=1), wide(1, 5), END), [-4, 0])
        self.assertEqual(answer(wide(1, 5), ins(0x05, off=-2)), [-4, 2])
        self.assertEqual(answer(ins(0x05, off=0), wide(1, 5), END), [0])
        self.assertEqual(answer(ins(0x05, off=2), wide(1, 5), END), [0])
        self.assertEqual(answer(wide(1, 5), ins(0x05, off=-3)), [0])

    def test_into_a_second_half_whatever_is_wrong(self):
        for row in (ins(0x18, 1, 5), ins(0x18, 1, off=1), ins(0x18, 12), ins(0x18, 10)):
            self.assertEqual(answer(ins(0x05, off=1), row, ins(0), END), [-4, 0])
        self.assertEqual(answer(ins(0x05, off=1), ins(0x18), END, END), [-4, 0])
        self.assertEqual(answer(ins(0x05, off=0), ins(0x18), END, END), [-2, 1])

    def test_behind_a_wrong_instruction_another_begins(self):
        self.assertEqual(answer(ins(0x05, off=1), ins(0xFF), END), [-2, 1])


class WideTest(unittest.TestCase):
    def test_read(self):
        for number in (0, 1, 2 ** 31, 2 ** 32 - 1, 2 ** 32, 2 ** 63, 2 ** 64 - 1):
            self.assertEqual(answer(wide(9, number), END), [0])

    def test_its_own_fields(self):
        self.assertEqual(answer(ins(0x18, 1, 1), ins(0), END), [-2, 0])
        self.assertEqual(answer(ins(0x18, 1, off=1), ins(0), END), [-2, 0])
        self.assertEqual(answer(ins(0x18, 11), ins(0), END), [-3, 0])
        self.assertEqual(answer(ins(0x18, 10), ins(0), END), [-3, 0])

    def test_the_next_one(self):
        for half in (ins(0x18), ins(0x95), ins(1), ins(0, 1), ins(0, 0, 1), ins(0, 15), ins(0, off=1), ins(0, off=-1)):
            self.assertEqual(answer(ins(0x18, 1), half, END), [-2, 0])
        self.assertEqual(answer(ins(0x18, 1), ins(0, imm=-1), END), [0])

    def test_the_next_one_goes_ahead_of_registers(self):
        self.assertEqual(answer(ins(0x18, 11), ins(0, 1), END), [-2, 0])

    def test_as_the_last(self):
        self.assertEqual(answer(ins(0x18, 1)), [-4, 0])
        self.assertEqual(answer(END, ins(0x18, 1)), [-4, 1])
        self.assertEqual(answer(END, ins(0x18, 10)), [-3, 1])
        self.assertEqual(answer(END, ins(0x18, 10, 1)), [-2, 1])
        self.assertEqual(answer(END, ins(0x18, 1), ins(0, 1)), [-2, 1])
        self.assertEqual(answer(END, ins(0x18, 1), END), [-2, 1])
        self.assertEqual(answer(END, ins(0x18, 1), ins(0)), [-4, 1])

    def test_a_second_half_is_no_instruction(self):
        self.assertEqual(answer(ins(0)), [-2, 0])
        self.assertEqual(answer(END, ins(0), END), [-2, 1])
        # The third stands behind a second half, so it begins, and is 18H itself.
        self.assertEqual(answer(wide(1, 1), wide(2, 2), END), [0])
        self.assertEqual(answer(ins(0x18), ins(0x18), ins(0), END), [-2, 0])
        # A second half of code 18H isn't 18H itself, so an instruction begins behind it.
        self.assertEqual(answer(ins(0x05, off=2), ins(0x18), ins(0x18), END), [-2, 1])
        self.assertEqual(answer(ins(0x05, off=1), ins(0x18), ins(0x18), END), [-4, 0])
        # A second half that would be wrong on its own isn't told by its place.
        self.assertEqual(answer(END, ins(0x18), ins(0xFF, 15, 15), END), [-2, 1])

    def test_wide_at_second_place_of_halves(self):
        self.assertEqual(ask(load(wide(1, 0x18), wide(2, 2), END), judge(0), tell(2, 1), tell(3, 1), tell(4, 2)),
                         [[0], [0], [0, 0x18, 0x18], [-1], [0, 2, 2]])


class OrderTest(unittest.TestCase):
    def test_one_wrong_in_two_ways(self):
        self.assertEqual(answer(ins(0x0F, 12, 3, imm=1)), [-2, 0])
        self.assertEqual(answer(ins(0xFF, 12)), [-2, 0])
        self.assertEqual(answer(ins(0x05, off=9, imm=1)), [-2, 0])
        self.assertEqual(answer(ins(0x15, 12, off=9)), [-3, 0])
        self.assertEqual(answer(ins(0xB7, 10)), [-3, 0])
        self.assertEqual(answer(ins(0x95, 12)), [-2, 0])
        self.assertEqual(answer(ins(0x05, 12, off=9)), [-2, 0])

    def test_the_first_of_several(self):
        wrong = {-2: ins(0xFF), -3: ins(0xB7, 10), -4: ins(0x05, off=100)}
        for first in wrong:
            for second in wrong:
                self.assertEqual(answer(ins(0xB7), wrong[first], ins(0xB7), wrong[second], END), [first, 1])

    def test_one_that_no_way_leads_to(self):
        self.assertEqual(answer(END, ins(0xFF), END), [-2, 1])
        self.assertEqual(answer(END, ins(0xB7, 10), END), [-3, 1])


class KeepingTest(unittest.TestCase):
    def test_a_refusal_changes_nothing(self):
        for refused in (load(), load([0]), load(ins(0xFF)), load(ins(0xB7, 10)), load(ins(0xB7)), load([256] * 8)):
            found = ask(load(ins(0xB7, 3, imm=42), END), judge(0), refused, tell(1, 3), judge(4), tell(1, 2))
            self.assertEqual(found[3:], [[0, 42, 42], [0], [0, 4, 256]])

    def test_a_refusal_at_first(self):
        found = ask(load(ins(0xFF)), judge(0), tell(0, 0))
        self.assertEqual(found, [[-2, 0], [-1], [-1]])

    def test_another_program(self):
        first = load(ins(0xB7, 3, imm=42), END)
        found = ask(first, judge(0), load(END, END), tell(0, 0), judge(0), tell(0, 3), tell(1, 3))
        self.assertEqual(found, [[0], [0], [0], [-1], [0], [0, 0, 0], [3]])

    def test_the_same_program_again(self):
        self.assertEqual(ask(load(END), judge(0), load(END), tell(0, 0))[3], [-1])


if __name__ == "__main__":
    unittest.main()
