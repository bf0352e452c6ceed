"""The calls on a record: a program is loaded and judged, and what was found of it is told."""

from judgedprograms.judging import MOST_DATA, SLOTS, judged
from judgedprograms.reading import Program, begins_at, first_fault

MOST_INSTRUCTIONS = 128
NO_WAY = 3


class CallNotKnown(ValueError):
    """A call whose number isn't one of those that are answered."""


class Calls:
    """The calls of one line, taken number by number."""

    def __init__(self, numbers):
        self.numbers = numbers
        self.place = 0

    def has_more(self):
        return self.place < len(self.numbers)

    def take(self):
        number = self.numbers[self.place]
        self.place += 1
        return number

    def take_row(self):
        end = self.take() + self.place
        row = self.numbers[self.place:end]
        self.place = end
        return row


class Record:
    """What the calls of one line work on: a program, and what the last judge found of it."""

    def __init__(self):
        self.program = None
        self.judgement = None

    def load(self, code):
        if not is_code(code):
            return [-1]
        program = Program(code)
        fault = first_fault(program)
        if fault:
            return fault
        self.program = program
        self.judgement = None
        return [0]

    def judge(self, least):
        if self.program is None:
            return [-1]
        if not 0 <= least <= MOST_DATA:
            return [-2]
        self.judgement = judged(self.program, least)
        if self.judgement.wrong is None:
            return [0]
        return [1, self.judgement.wrong]

    def tell(self, place, slot):
        if self.judgement is None or not begins_at(self.program, place) or not 0 <= slot < SLOTS:
            return [-1]
        state = self.judgement.states[place]
        return [NO_WAY] if state is None else list(state[slot])


def is_code(code):
    """Whether a list is the bytes of 1 to 128 instructions."""
    if len(code) == 0 or len(code) % 8 != 0 or len(code) > 8 * MOST_INSTRUCTIONS:
        return False
    return all([0 <= number <= 255 for number in code])


def answer_of(record, calls):
    """The answer to the next call."""
    number = calls.take()
    if number == 0:
        return record.load(calls.take_row())
    if number == 1:
        return record.judge(calls.take())
    if number == 2:
        place = calls.take()
        return record.tell(place, calls.take())
    raise CallNotKnown(f"call {number}")


def answers(calls):
    """All answers to the calls on a new record, each behind how many numbers it has."""
    record = Record()
    line = Calls(calls)
    told = []
    while line.has_more():
        answer = answer_of(record, line)
        told.append(len(answer))
        told.extend(answer)
    return told
