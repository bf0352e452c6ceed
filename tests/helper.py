"""What the tests share: instructions as bytes, calls, answers call by call, what a run leaves, and registers of a
given range."""

from judgedprograms.machine import answers

WORD = 1 << 64
HALF = 1 << 32
ANY = [0, 0, WORD - 1]
LOW = [0, 0, HALF - 1]
NO_WAY = [3]


def ins(code, dst=0, src=0, off=0, imm=0):
    row = [code, dst + 16 * src]
    row += list((off % 65536).to_bytes(2, "little"))
    row += list((imm % HALF).to_bytes(4, "little"))
    return row


def wide(dst, number):
    return ins(0x18, dst, imm=number % HALF) + ins(0, imm=number >> 32)


END = ins(0x95)


def program(*rows):
    return [byte for row in rows for byte in row]


def load(*rows):
    code = program(*rows)
    return [0, len(code)] + code


def judge(least):
    return [1, least]


def tell(place, slot):
    return [2, place, slot]


def run(most=2000, data=(), helpers=()):
    return [3, most, len(data), *data, len(helpers), *helpers]


def reg(number):
    return [4, number]


STACK = [5]
ALL_LEFT = [reg(number) for number in range(11)] + [STACK]


def ask(*calls):
    """The answer to each call."""
    told = answers([number for call in calls for number in call])
    split = []
    place = 0
    while place < len(told):
        end = place + 1 + told[place]
        split.append(told[place + 1:end])
        place = end
    assert place == len(told), told
    assert len(split) == len(calls), split
    return split


class Ran:
    """What a run answers, and the registers and the stack that it leaves."""

    def __init__(self, told, left):
        self.how, self.place, count = told[:3]
        self.asked = [told[3 + 7 * turn:10 + 7 * turn] for turn in range(count)]
        self.data = told[4 + 7 * count:]
        assert all(len(row) == 7 for row in self.asked), told
        assert told[3 + 7 * count] == len(self.data), told
        assert all(len(row) == 1 for row in left[:11]), left
        self.regs = [row[0] for row in left[:11]]
        assert left[11][0] == 512 and len(left[11]) == 513, left
        self.stack = left[11][1:]

    def end(self):
        return self.how, self.place


def ran(rows, data=(), helpers=(), most=2000):
    """A new program's run."""
    found = ask(load(*rows), run(most, data, helpers), *ALL_LEFT)
    assert found[0] == [0], found[0]
    return Ran(found[1], found[2:])


class Sketch:
    """A program with registers of given ranges; register 9 is spare, least is 8 at least."""

    def __init__(self):
        self.rows = []
        self.leaving = []

    def put(self, row):
        for start in range(0, len(row), 8):
            self.rows.append(row[start:start + 8])

    def place(self):
        return len(self.rows)

    def leave(self, code, dst, src):
        """A jump to the program's last instruction."""
        self.leaving.append((self.place(), code, dst, src))
        self.rows.append(None)

    def number(self, dst, lo, hi):
        if lo == hi:
            self.put(wide(dst, lo))
            return
        self.put(ins(0x79, dst, 1))
        self.put(wide(9, lo))
        self.leave(0xAD, dst, 9)
        self.put(wide(9, hi))
        self.leave(0x2D, dst, 9)

    def span(self, dst, kind, lo, hi):
        if kind == 2:
            self.put(ins(0xBF, dst, 10))
            self.put(ins(0x07, dst, imm=lo - 512))
        else:
            self.number(dst, lo, hi)
        if kind == 1:
            self.put(ins(0x0F, dst, 1))

    def finished(self):
        rows = self.rows + [END]
        for place, code, dst, src in self.leaving:
            rows[place] = ins(code, dst, src, len(rows) - place - 2)
        return program(*rows)


def told_of(code, least, places):
    """The ranges at places (place, slot) of a program that's good for least bytes."""
    found = ask(load(code), judge(least), *[tell(place, slot) for place, slot in places])
    assert found[:2] == [[0], [0]], found[:2]
    return found[2:]


def after(row, dst, x=None):
    """The range of register 3 behind one instruction, register 3 and, if told, 4 being of these ranges before."""
    sketch = Sketch()
    sketch.span(3, *dst)
    if x is not None:
        sketch.span(4, *x)
    sketch.put(row)
    place = sketch.place()
    # The last end is where registers out of their ranges lead, so this way has one of its own.
    sketch.put(END)
    return told_of(sketch.finished(), 8, [(place, 3)])[0]


def ways(row, dst, x=None):
    """Of registers 3 and 4 behind a jump over one instruction: where it's so, then where it isn't."""
    sketch = Sketch()
    sketch.span(3, *dst)
    if x is not None:
        sketch.span(4, *x)
    sketch.put(row[:2] + [1, 0] + row[4:])
    place = sketch.place()
    sketch.put(END)
    sketch.put(END)
    found = told_of(sketch.finished(), 8, [(place + 1, 3), (place + 1, 4), (place, 3), (place, 4)])
    return found[:2], found[2:]
