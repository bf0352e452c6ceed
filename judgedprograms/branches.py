"""What the two ways on from a comparison know of the ranges that were compared."""

from judgedprograms.spans import NUMBER, one_number
from judgedprograms.words import ones, width

RELATIONS = {
    1: "==", 2: ">", 3: ">=", 5: "!=", 6: ">", 7: ">=", 10: "<", 11: "<=", 12: "<", 13: "<=",
}
WITH_SIGN = (6, 7, 12, 13)
OPPOSITES = {"==": "!=", "!=": "==", ">": "<=", "<=": ">", "<": ">=", ">=": "<"}
MIRRORED = {"==": "==", "!=": "!=", ">": "<", "<": ">", ">=": "<=", "<=": ">="}


def operand(ins, state):
    """The range of x: imm is one number, of as many bits as the class goes by."""
    if ins.from_src:
        return state[ins.src]
    return one_number(ins.imm & ones(width(ins)))


def unequal(span, other):
    """The ends of span that no number but themselves stands against are cut."""
    lo = span[1]
    hi = span[2]
    if other[1] != other[2]:
        return span
    if lo == other[1]:
        lo += 1
    if hi == other[1]:
        hi -= 1
    return (NUMBER, lo, hi)


def cut(span, relation, other):
    """Span's numbers that are in that relation to some number of the other; none: lo is above hi."""
    lo = span[1]
    hi = span[2]
    if relation == "==":
        return (NUMBER, max(lo, other[1]), min(hi, other[2]))
    if relation == "!=":
        return unequal(span, other)
    if relation == ">":
        return (NUMBER, max(lo, other[1] + 1), hi)
    if relation == ">=":
        return (NUMBER, max(lo, other[1]), hi)
    if relation == "<":
        return (NUMBER, lo, min(hi, other[2] - 1))
    return (NUMBER, lo, min(hi, other[2]))


def is_none(span):
    return span[1] > span[2]


def way_on(ins, state, x, relation):
    """What is told on the way where dst and x are in that relation; None if it isn't gone."""
    dst = state[ins.dst]
    dst_left = cut(dst, relation, x)
    x_left = cut(x, MIRRORED[relation], dst)
    if ins.from_src and ins.src == ins.dst:
        dst_left = cut(dst_left, "==", x_left)
        x_left = dst_left
    if is_none(dst_left) or is_none(x_left):
        return None
    after = list(state)
    after[ins.dst] = dst_left
    if ins.from_src:
        after[ins.src] = x_left
    return after


def is_telling(ins, dst, x):
    """Whether the ways on know anything: with sign numbers are as without it below the sign's bit."""
    if ins.op not in RELATIONS or dst[0] != NUMBER or x[0] != NUMBER:
        return False
    bits = width(ins) - 1 if ins.op in WITH_SIGN else width(ins)
    return max(dst[2], x[2]) <= ones(bits)


def both_ways(ins, state):
    """The state where the comparison is so, and the one where it isn't; None for a way that isn't gone."""
    x = operand(ins, state)
    if not is_telling(ins, state[ins.dst], x):
        return [state, state]
    relation = RELATIONS[ins.op]
    return [way_on(ins, state, x, relation), way_on(ins, state, x, OPPOSITES[relation])]
