"""Ranges, and what the operations of classes 7 and 4 make of them.

A range is kind, lo, hi in a tuple. Each rule for numbers takes dst, which is a to b, and x, which is c to d,
and the bits of the class: what isn't surely a number of so many bits is anything of these bits.
"""

from judgedprograms.words import MOV, NEG, SWAP, ones, outcome, signed, width

NUMBER = 0
DATA = 1
STACK = 2
ANY = (0, 0, 0xFFFFFFFFFFFFFFFF)
ZERO = (0, 0, 0)
STACK_SIZE = 512
MOST_DATA_PLACE = 0x100000


def one_number(number):
    return (NUMBER, number, number)


def anything(bits):
    return (NUMBER, 0, ones(bits))


def fitting(lo, hi, bits):
    return (NUMBER, lo, hi) if hi <= ones(bits) else anything(bits)


def is_one_number(span):
    return span[0] == NUMBER and span[1] == span[2]


def met(one, other):
    """What is told where two ways meet."""
    if one == other:
        return one
    if one[0] == other[0] and one[0] != STACK:
        return (one[0], min(one[1], other[1]), max(one[2], other[2]))
    return ANY


def add_span(a, b, c, d, bits):
    return fitting(a + c, b + d, bits)


def sub_span(a, b, c, d, bits):
    return (NUMBER, a - d, b - c) if a >= d else anything(bits)


def mul_span(a, b, c, d, bits):
    return fitting(a * c, b * d, bits)


def div_span(a, b, c, d, bits):
    return (NUMBER, a // d, b // c) if c > 0 else (NUMBER, 0, b)


def mod_span(a, b, c, d, bits):
    if c == 0:
        return (NUMBER, 0, b)
    return (NUMBER, a, b) if b < c else (NUMBER, 0, min(b, d - 1))


def and_span(a, b, c, d, bits):
    return (NUMBER, 0, min(b, d))


def or_span(a, b, c, d, bits):
    return anything(max(b, d).bit_length())


def left_span(a, b, c, d, bits):
    if c != d:
        return anything(bits)
    return fitting(a << (c % bits), b << (c % bits), bits)


def right_span(a, b, c, d, bits):
    if c != d:
        return anything(bits)
    return (NUMBER, a >> (c % bits), b >> (c % bits))


def right_signed_span(a, b, c, d, bits):
    # Below the sign's bit the two shifts are one.
    return right_span(a, b, c, d, bits) if b <= ones(bits - 1) else anything(bits)


RULES = {
    0: add_span, 1: sub_span, 2: mul_span, 3: div_span, 4: or_span, 5: and_span, 6: left_span, 7: right_span,
    9: mod_span, 10: or_span, 12: right_signed_span,
}


def number_span(ins, dst, x):
    """Of numbers that aren't both one number; off tells signed operations, of which nothing is known."""
    if ins.op == NEG or ins.off != 0:
        return anything(width(ins))
    return RULES[ins.op](dst[1], dst[2], x[1], x[2], width(ins))


def moved_span(ins, x):
    if ins.off == 0:
        return x
    # An address is above every number that a move with sign could leave as it is.
    is_kept = x[0] == NUMBER and x[2] <= ones(ins.off - 1)
    return x if is_kept else anything(width(ins))


def data_plus(address, number):
    hi = address[2] + number[2]
    return (DATA, address[1] + number[1], hi) if hi <= MOST_DATA_PLACE else ANY


def data_less(address, number):
    if address[1] < number[2]:
        return ANY
    return (DATA, address[1] - number[2], address[2] - number[1])


def stack_at(place):
    return (STACK, place, place) if 0 <= place <= STACK_SIZE else ANY


def sum_span(dst, x):
    """Class 7's add where an address is among the two."""
    if dst[0] == DATA and x[0] == NUMBER:
        return data_plus(dst, x)
    if dst[0] == NUMBER and x[0] == DATA:
        return data_plus(x, dst)
    if dst[0] == STACK and is_one_number(x):
        return stack_at(dst[1] + signed(x[1], 64))
    return ANY


def difference_span(dst, x):
    """Class 7's sub where an address is among the two."""
    if dst[0] == DATA and x[0] == NUMBER:
        return data_less(dst, x)
    if dst[0] == STACK and is_one_number(x):
        return stack_at(dst[1] - signed(x[1], 64))
    return ANY


def address_span(ins, dst, x):
    if ins.op == 0:
        return sum_span(dst, x)
    if ins.op == 1:
        return difference_span(dst, x)
    return ANY


def lower_half(span):
    """What's known of the lowest 32 bits."""
    is_kept = span[0] == NUMBER and span[2] <= ones(32)
    return span if is_kept else anything(32)


def is_known(ins, dst, x):
    """Whether all that the result hangs on is one number."""
    if ins.op == MOV:
        return is_one_number(x)
    if ins.op == NEG or ins.op == SWAP:
        return is_one_number(dst)
    return is_one_number(dst) and is_one_number(x)


def arithmetic_span(ins, dst, x):
    """The range of dst behind an instruction of class 7 or 4."""
    if is_known(ins, dst, x):
        return one_number(outcome(ins, dst[1], x[1]))
    if ins.op == SWAP:
        return anything(ins.imm)
    if ins.op == MOV:
        return moved_span(ins, x if ins.group == 7 else lower_half(x))
    if ins.group == 4:
        return number_span(ins, lower_half(dst), lower_half(x))
    if dst[0] == NUMBER and x[0] == NUMBER:
        return number_span(ins, dst, x)
    return address_span(ins, dst, x)
