"""Whether an address is surely in its memory, and what loads and stores leave known."""

from judgedprograms.reading import COMPARE, is_exchange
from judgedprograms.spans import ANY, DATA, STACK, STACK_SIZE, anything, one_number
from judgedprograms.words import ones

FIRST_PIECE = 11


def is_memory(ins):
    return ins.group in (1, 2, 3)


def address_of(ins, state):
    """The range of the register that the address is reckoned from."""
    return state[ins.src] if ins.group == 1 else state[ins.dst]


def is_within(ins, address, least):
    first = address[1] + ins.off
    end = address[2] + ins.off + ins.size
    if address[0] == DATA:
        return first >= 0 and end <= least
    if address[0] == STACK:
        return first >= 0 and end <= STACK_SIZE
    return False


def is_aligned(ins, address):
    """An exchange is at one place, a multiple of its size."""
    return address[1] == address[2] and (address[1] + ins.off) % ins.size == 0


def is_sure(ins, state, least):
    address = address_of(ins, state)
    if not is_within(ins, address, least):
        return False
    return is_aligned(ins, address) or not is_exchange(ins)


def is_whole_piece(ins, address):
    """Whether eight bytes are just one piece of the stack."""
    return address[0] == STACK and ins.size == 8 and (address[1] + ins.off) % 8 == 0


def pieces_touched(ins, address):
    """The stack's pieces, by their places in a state."""
    if address[0] != STACK:
        return []
    first = address[1] + ins.off
    return list(range(FIRST_PIECE + first // 8, FIRST_PIECE + (first + ins.size - 1) // 8 + 1))


def loaded(ins, state):
    address = address_of(ins, state)
    if is_whole_piece(ins, address):
        return state[pieces_touched(ins, address)[0]]
    return anything(8 * ins.size) if ins.way == 0x60 else ANY


def stored(ins, state):
    """What is known of a piece that a store touches."""
    if is_exchange(ins) or not is_whole_piece(ins, address_of(ins, state)):
        return ANY
    return state[ins.src] if ins.group == 3 else one_number(ins.imm & ones(64))


def after_store(ins, state):
    after = list(state)
    for piece in pieces_touched(ins, address_of(ins, state)):
        after[piece] = stored(ins, state)
    if is_exchange(ins) and ins.imm == COMPARE:
        after[0] = anything(8 * ins.size)
    elif is_exchange(ins) and ins.imm & 1:
        after[ins.src] = anything(8 * ins.size)
    return after


def after_memory(ins, state):
    """The state behind a load, a store or an exchange."""
    if ins.group != 1:
        return after_store(ins, state)
    after = list(state)
    after[ins.dst] = loaded(ins, state)
    return after
