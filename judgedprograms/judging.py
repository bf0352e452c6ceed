"""Judging: the ways through a program are followed, and what's told before each instruction is kept.

A state is a list of 75 ranges: registers 0 to 10, then the stack's 64 pieces.
"""

from judgedprograms.branches import both_ways, operand
from judgedprograms.memory import after_memory, is_memory, is_sure
from judgedprograms.reading import END, HELPER, WIDE, is_jump, jump_place, wide_number
from judgedprograms.spans import ANY, DATA, NUMBER, STACK, STACK_SIZE, ZERO, arithmetic_span, met, one_number

SLOTS = 75
MOST_DATA = 256


class Judgement:
    """The state before each instruction, None where no way leads, and the least place that isn't good."""

    def __init__(self, count):
        self.states = [None] * count
        self.wrong = None


def first_state(least):
    state = [ZERO] * SLOTS
    state[1] = (DATA, 0, 0)
    state[2] = (NUMBER, least, MOST_DATA)
    state[10] = (STACK, STACK_SIZE, STACK_SIZE)
    return state


def is_good(ins, place, state, least):
    """Whether the ways are followed on from there."""
    if is_jump(ins):
        return jump_place(ins, place) > place
    return is_sure(ins, state, least) if is_memory(ins) else True


def after_helper(state):
    after = list(state)
    after[0] = ANY
    for number in range(1, 6):
        after[number] = ZERO
    return after


def with_dst(ins, state, span):
    after = list(state)
    after[ins.dst] = span
    return after


def ways_of_jump(ins, place, state):
    if ins.op == 0:
        return [(jump_place(ins, place), state)]
    ways = both_ways(ins, state)
    return [(jump_place(ins, place), ways[0]), (place + 1, ways[1])]


def ways_behind(program, place, state):
    """Where the ways lead from a good instruction, and with what state; None: that way isn't gone."""
    ins = program.instructions[place]
    if ins.code == END:
        return []
    if ins.code == WIDE:
        return [(place + 2, with_dst(ins, state, one_number(wide_number(program, place))))]
    if ins.code == HELPER:
        return [(place + 1, after_helper(state))]
    if is_jump(ins):
        return ways_of_jump(ins, place, state)
    if is_memory(ins):
        return [(place + 1, after_memory(ins, state))]
    span = arithmetic_span(ins, state[ins.dst], operand(ins, state))
    return [(place + 1, with_dst(ins, state, span))]


def joined(known, state):
    """The state at a place, once another way has come there."""
    if known is None:
        return state
    return [met(one, other) for one, other in zip(known, state)]


def judged(program, least):
    """All ways lead on, as jumps that go back aren't followed: so one walk from the first to the last will do."""
    count = len(program.instructions)
    judgement = Judgement(count)
    judgement.states[0] = first_state(least)
    for place in range(count):
        state = judgement.states[place]
        if state is None:
            continue
        if is_good(program.instructions[place], place, state, least):
            for target, after in ways_behind(program, place, state):
                if after is not None:
                    judgement.states[target] = joined(judgement.states[target], after)
        elif judgement.wrong is None:
            judgement.wrong = place
    return judgement
