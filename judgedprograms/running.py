"""Runs: the instructions of a program one by one, on data and a stack, with what helpers answer.

Each step moves the run to the next place; where the run stops it sets how it ended, and changes nothing else.
"""

from judgedprograms.branches import RELATIONS, WITH_SIGN
from judgedprograms.reading import COMPARE, END, HELPER, is_exchange, jump_place, wide_number
from judgedprograms.spans import STACK_SIZE
from judgedprograms.words import GREATEST_WORD, ones, outcome, signed, width

DATA_BASE = 0x100000000
STACK_BASE = 0x1FFFFFE00
ENDED = 0
ASTRAY = 1
OUT_OF_STEPS = 2
STOPPED_BY_HELPER = 3


class Memory:
    """Bytes that stand from an address on."""

    def __init__(self, base, cells):
        self.base = base
        self.cells = cells

    def is_around(self, address, size):
        return self.base <= address and address + size <= self.base + len(self.cells)

    def number_at(self, address, size):
        first = address - self.base
        number = 0
        for step in range(size):
            number |= self.cells[first + step] << (8 * step)
        return number

    def put_number(self, address, size, number):
        first = address - self.base
        for step in range(size):
            self.cells[first + step] = (number >> (8 * step)) & 255


class Run:
    """Where a run is; asked has seven numbers for each helper that was asked."""

    def __init__(self, data, helpers):
        self.registers = [0, DATA_BASE, len(data), 0, 0, 0, 0, 0, 0, 0, STACK_BASE + STACK_SIZE]
        self.data = Memory(DATA_BASE, list(data))
        self.stack = Memory(STACK_BASE, [0] * STACK_SIZE)
        self.helpers = helpers
        self.asked = []
        self.place = 0
        self.ending = None


def memory_around(run, address, size):
    """The memory in which so many bytes from an address on wholly lie; None if there's none.

    An address below 0 or above all words needn't be cut to a word: off is too short to reach a memory from there.
    """
    if run.data.is_around(address, size):
        return run.data
    if run.stack.is_around(address, size):
        return run.stack
    return None


def operand_word(run, ins):
    return run.registers[ins.src] if ins.from_src else ins.imm & GREATEST_WORD


def step_wide(program, run, ins):
    run.registers[ins.dst] = wide_number(program, run.place)
    run.place += 2


def step_arithmetic(program, run, ins):
    run.registers[ins.dst] = outcome(ins, run.registers[ins.dst], operand_word(run, ins))
    run.place += 1


def step_load(program, run, ins):
    address = run.registers[ins.src] + ins.off
    memory = memory_around(run, address, ins.size)
    if memory is None:
        run.ending = ASTRAY
        return
    number = memory.number_at(address, ins.size)
    if ins.way == 0x80:
        number = signed(number, 8 * ins.size) & GREATEST_WORD
    run.registers[ins.dst] = number
    run.place += 1


def step_store(program, run, ins):
    address = run.registers[ins.dst] + ins.off
    memory = memory_around(run, address, ins.size)
    if memory is None or (is_exchange(ins) and address % ins.size != 0):
        run.ending = ASTRAY
        return
    if is_exchange(ins):
        exchange(run, ins, memory, address)
    else:
        memory.put_number(address, ins.size, run.registers[ins.src] if ins.group == 3 else ins.imm)
    run.place += 1


def exchange(run, ins, memory, address):
    """All numbers are taken first, as src, dst and r0 may be one register."""
    found = memory.number_at(address, ins.size)
    word = run.registers[ins.src]
    if ins.imm == COMPARE:
        if found == run.registers[0] & ones(8 * ins.size):
            memory.put_number(address, ins.size, word)
        run.registers[0] = found
        return
    memory.put_number(address, ins.size, exchanged(ins.imm & 0xF0, found, word))
    if ins.imm & 1:
        run.registers[ins.src] = found


def exchanged(way, found, word):
    """What an exchange puts in the place of what it found; its lowest bytes count."""
    if way == 0x00:
        return found + word
    if way == 0x40:
        return found | word
    if way == 0x50:
        return found & word
    if way == 0xA0:
        return found ^ word
    return word


def is_related(relation, a, b):
    if relation == "==":
        return a == b
    if relation == "!=":
        return a != b
    if relation == ">":
        return a > b
    if relation == ">=":
        return a >= b
    if relation == "<":
        return a < b
    return a <= b


def is_so(ins, dst, x):
    """Whether a comparison of class 5 or 6 is so of two words."""
    bits = width(ins)
    a = signed(dst, bits) if ins.op in WITH_SIGN else dst & ones(bits)
    b = signed(x, bits) if ins.op in WITH_SIGN else x & ones(bits)
    if ins.op in RELATIONS:
        return is_related(RELATIONS[ins.op], a, b)
    return a & b != 0


def step_branch(program, run, ins):
    if ins.code == END:
        run.ending = ENDED
    elif ins.code == HELPER:
        ask_helper(run, ins)
    elif ins.op == 0 or is_so(ins, run.registers[ins.dst], operand_word(run, ins)):
        run.place = jump_place(ins, run.place)
    else:
        run.place += 1


def ask_helper(run, ins):
    """A helper takes the next two of what helpers answer; behind the last one it answers 0, 0."""
    start = 2 * len(run.asked)
    answer = run.helpers[start:start + 2] if start < len(run.helpers) else [0, 0]
    run.asked.append([ins.imm & 0xFFFFFFFF] + run.registers[1:6] + [run.registers[0]])
    if answer[1] != 0:
        run.ending = STOPPED_BY_HELPER
        return
    run.registers = [answer[0], 0, 0, 0, 0, 0] + run.registers[6:]
    run.place += 1


STEPS = (step_wide, step_load, step_store, step_store, step_arithmetic, step_branch, step_branch, step_arithmetic)


def finished_run(program, most, data, helpers):
    """A new run of a program, up to where it ends or stops."""
    run = Run(data, helpers)
    begun = 0
    while run.ending is None:
        if begun == most:
            run.ending = OUT_OF_STEPS
        else:
            ins = program.instructions[run.place]
            STEPS[ins.group](program, run, ins)
            begun += 1
    return run


def told_of_run(run):
    """How it ended, the place, the helpers that were asked, the data."""
    told = [run.ending, -1 if run.ending == ENDED else run.place, len(run.asked)]
    for row in run.asked:
        told.extend(row)
    return told + [len(run.data.cells)] + run.data.cells
