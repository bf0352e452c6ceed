"""Programs: their instructions, what is wrong with them, and where they lead."""

from judgedprograms.words import DIV, MOD, MOV, NEG, SWAP, signed

WIDE = 0x18
ALWAYS_BY_OFF = 0x05
ALWAYS_BY_IMM = 0x06
HELPER = 0x85
END = 0x95
SIZES = {0: 4, 8: 2, 16: 1, 24: 8}
EXCHANGES = (0x00, 0x01, 0x40, 0x41, 0x50, 0x51, 0xA0, 0xA1, 0xE1, 0xF1)
COMPARE = 0xF1
COMPARISONS = (1, 2, 3, 4, 5, 6, 7, 10, 11, 12, 13)
LAST_REGISTER = 10


class Instruction:
    """One instruction of eight bytes; op is what classes 4 to 7 do, way what classes 1 to 3 do."""

    def __init__(self, row):
        self.code = row[0]
        self.group = row[0] & 7
        self.op = row[0] >> 4
        self.way = row[0] & 0xE0
        self.size = SIZES[row[0] & 24]
        self.from_src = row[0] & 8 != 0
        self.dst = row[1] & 15
        self.src = row[1] >> 4
        self.off = signed(row[2] + (row[3] << 8), 16)
        self.imm = signed(row[4] + (row[5] << 8) + (row[6] << 16) + (row[7] << 24), 32)


class Program:
    """Instructions, and for each place whether one begins there."""

    def __init__(self, code):
        self.instructions = [Instruction(code[start:start + 8]) for start in range(0, len(code), 8)]
        self.begins = beginnings(self.instructions)


def beginnings(instructions):
    """Behind code 18H stands its second half, which is no instruction of its own."""
    begins = []
    for place in range(len(instructions)):
        is_half = place > 0 and begins[place - 1] and instructions[place - 1].code == WIDE
        begins.append(not is_half)
    return begins


def begins_at(program, place):
    return 0 <= place < len(program.begins) and program.begins[place]


def is_exchange(ins):
    return ins.group == 3 and ins.way == 0xC0


def is_jump(ins):
    return ins.group in (5, 6) and ins.code not in (HELPER, END)


def jump_place(ins, place):
    """Where a jump goes."""
    return place + 1 + (ins.imm if ins.code == ALWAYS_BY_IMM else ins.off)


def places_behind(ins, place):
    """The places that an instruction may lead to."""
    if ins.code == END:
        return []
    if ins.code == WIDE:
        return [place + 2]
    if not is_jump(ins):
        return [place + 1]
    if ins.op == 0:
        return [jump_place(ins, place)]
    return [place + 1, jump_place(ins, place)]


def wide_number(program, place):
    """What code 18H brings: its own imm, and the next instruction's above it."""
    lower = program.instructions[place].imm & 0xFFFFFFFF
    upper = program.instructions[place + 1].imm & 0xFFFFFFFF
    return (upper << 32) | lower


def has_operand(ins):
    """x is imm or register src; the one that it isn't is 0."""
    return ins.imm == 0 if ins.from_src else ins.src == 0


def is_wide(ins):
    return ins.code == WIDE and ins.src == 0 and ins.off == 0


def is_load(ins):
    return ins.imm == 0 and (ins.way == 0x60 or (ins.way == 0x80 and ins.size < 8))


def is_store_of_imm(ins):
    return ins.way == 0x60 and ins.src == 0


def is_store(ins):
    if is_exchange(ins):
        return ins.size in (4, 8) and ins.imm in EXCHANGES
    return ins.way == 0x60 and ins.imm == 0


def is_move(ins):
    """A move with sign is from a register alone, and from fewer bits than the class has."""
    if ins.off == 0:
        return has_operand(ins)
    narrower = (8, 16, 32) if ins.group == 7 else (8, 16)
    return ins.from_src and ins.imm == 0 and ins.off in narrower


def is_swap(ins):
    return ins.code in (0xD7, 0xD4, 0xDC) and ins.src == 0 and ins.off == 0 and ins.imm in (16, 32, 64)


def is_arithmetic(ins):
    if ins.op == SWAP:
        return is_swap(ins)
    if ins.op == NEG:
        return not ins.from_src and ins.src == 0 and ins.off == 0 and ins.imm == 0
    if ins.op == MOV:
        return is_move(ins)
    if ins.op == DIV or ins.op == MOD:
        return has_operand(ins) and ins.off in (0, 1)
    return ins.op < SWAP and has_operand(ins) and ins.off == 0


def is_branch(ins):
    no_registers = ins.dst == 0 and ins.src == 0
    if ins.code == ALWAYS_BY_OFF:
        return no_registers and ins.imm == 0
    if ins.code == ALWAYS_BY_IMM or ins.code == HELPER:
        return no_registers and ins.off == 0
    if ins.code == END:
        return no_registers and ins.off == 0 and ins.imm == 0
    return ins.op in COMPARISONS and has_operand(ins)


FORMS = (is_wide, is_load, is_store_of_imm, is_store, is_arithmetic, is_branch, is_branch, is_arithmetic)


def is_second_half(ins):
    return ins.code == 0 and ins.dst == 0 and ins.src == 0 and ins.off == 0


def is_formed(program, place):
    """Whether an instruction is one of those that there are, with 0 in all that it doesn't use."""
    ins = program.instructions[place]
    if not FORMS[ins.group](ins):
        return False
    if ins.code == WIDE and place + 1 < len(program.instructions):
        return is_second_half(program.instructions[place + 1])
    return True


def is_written(ins, number):
    """Whether an instruction, a helper aside, writes the register of that number."""
    if ins.group in (0, 1, 4, 7):
        return number == ins.dst
    if not is_exchange(ins):
        return False
    if ins.imm == COMPARE:
        return number == 0
    return ins.imm & 1 == 1 and number == ins.src


def has_wrong_registers(ins):
    return ins.dst > LAST_REGISTER or ins.src > LAST_REGISTER or is_written(ins, LAST_REGISTER)


def fault_at(program, place):
    """-2, -3 or -4: what is wrong with the instruction that begins there; 0: nothing."""
    ins = program.instructions[place]
    if not is_formed(program, place):
        return -2
    if has_wrong_registers(ins):
        return -3
    if not all([begins_at(program, behind) for behind in places_behind(ins, place)]):
        return -4
    return 0


def first_fault(program):
    """The refusal and the place of the first wrong instruction; nothing if none is wrong."""
    for place in range(len(program.instructions)):
        if program.begins[place]:
            fault = fault_at(program, place)
            if fault != 0:
                return [fault, place]
    return []
