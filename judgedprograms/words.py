"""Words, and the number that an operation of class 7 (64 bits) or 4 (32 bits) brings.

The operations take two numbers of so many bits, and what they give back is cut to these bits by outcome.
"""

DIV = 3
NEG = 8
MOD = 9
MOV = 11
SWAP = 13
GREATEST_WORD = 0xFFFFFFFFFFFFFFFF


def ones(bits):
    """The greatest number of so many bits."""
    return (1 << bits) - 1


def signed(number, bits):
    """The lowest bits of a number, read with their sign."""
    low = number & ones(bits)
    if low >> (bits - 1):
        return low - (1 << bits)
    return low


def width(ins):
    """How many bits an operation of class 7 or 4, or a comparison of class 5 or 6, goes by."""
    return 64 if ins.group in (5, 7) else 32


def added(a, b, bits):
    return a + b


def subtracted(a, b, bits):
    return a - b


def multiplied(a, b, bits):
    return a * b


def divided(a, b, bits):
    return a // b if b else 0


def remainder(a, b, bits):
    return a % b if b else a


def divided_signed(a, b, bits):
    if b == 0:
        return 0
    upper = signed(a, bits)
    lower = signed(b, bits)
    # Python rounds down where the document rounds to 0, so the signs are set apart.
    quotient = abs(upper) // abs(lower)
    return quotient if (upper < 0) == (lower < 0) else -quotient


def remainder_signed(a, b, bits):
    if b == 0:
        return a
    upper = signed(a, bits)
    left = abs(upper) % abs(signed(b, bits))
    return -left if upper < 0 else left


def united(a, b, bits):
    return a | b


def shared(a, b, bits):
    return a & b


def differing(a, b, bits):
    return a ^ b


def shifted_left(a, b, bits):
    return a << (b % bits)


def shifted_right(a, b, bits):
    return a >> (b % bits)


def shifted_right_signed(a, b, bits):
    return signed(a, bits) >> (b % bits)


def negated(a, b, bits):
    return -a


def moved(a, b, bits):
    return b


PLAIN = {
    0: added, 1: subtracted, 2: multiplied, 3: divided, 4: united, 5: shared, 6: shifted_left, 7: shifted_right,
    8: negated, 9: remainder, 10: differing, 11: moved, 12: shifted_right_signed,
}
SIGNED = {3: divided_signed, 9: remainder_signed}


def turned(number, bits):
    """The lowest bits of a number, their bytes the other way round."""
    result = 0
    for step in range(bits // 8):
        result = (result << 8) | ((number >> (8 * step)) & 255)
    return result


def swapped(ins, dst):
    """Class 4 with bit 3 0 alone turns nothing."""
    if ins.group == 4 and not ins.from_src:
        return dst & ones(ins.imm)
    return turned(dst, ins.imm)


def outcome(ins, dst, x):
    """The word that dst becomes by an instruction of class 7 or 4; dst and x are words."""
    bits = width(ins)
    if ins.op == SWAP:
        return swapped(ins, dst)
    if ins.op == MOV and ins.off:
        return signed(x, ins.off) & ones(bits)
    rule = SIGNED[ins.op] if ins.off else PLAIN[ins.op]
    return rule(dst & ones(bits), x & ones(bits), bits) & ones(bits)
