"""The calls on a record: a program is loaded, judged and run, and what was found of it is told."""

from judgedprograms.judging import MOST_DATA, SLOTS, judged
from judgedprograms.reading import LAST_REGISTER, Program, begins_at, first_fault
from judgedprograms.running import finished_run, told_of_run
from judgedprograms.words import GREATEST_WORD

MOST_INSTRUCTIONS = 128
MOST_STEPS = 2000
NO_WAY = 3


class CallNotKnown(ValueError):
    """A call whose number isn't one of those that are answered."""


class Calls:
    """The calls of one line, taken number by number."""

    def __init__(self, numbers):
        self.numbers = numbers
        self.place = 0

    def has_more(self):
        return self.place < len(self.numbers)

    def take(self):
        number = self.numbers[self.place]
        self.place += 1
        return number

    def take_row(self):
        end = self.take() + self.place
        row = self.numbers[self.place:end]
        self.place = end
        return row


class Record:
    """What the calls of one line work on: a program, what the last judge found of it, and its last run."""

    def __init__(self):
        self.program = None
        self.judgement = None
        self.last_run = None

    def load(self, code):
        if not is_code(code):
            return [-1]
        program = Program(code)
        fault = first_fault(program)
        if fault:
            return fault
        self.program = program
        self.judgement = None
        self.last_run = None
        return [0]

    def judge(self, least):
        if self.program is None:
            return [-1]
        if not 0 <= least <= MOST_DATA:
            return [-2]
        self.judgement = judged(self.program, least)
        if self.judgement.wrong is None:
            return [0]
        return [1, self.judgement.wrong]

    def tell(self, place, slot):
        if self.judgement is None or not begins_at(self.program, place) or not 0 <= slot < SLOTS:
            return [-1]
        state = self.judgement.states[place]
        return [NO_WAY] if state is None else list(state[slot])

    def run(self, most, data, helpers):
        if self.program is None:
            return [-1]
        if not (0 <= most <= MOST_STEPS and is_data(data) and are_answers(helpers)):
            return [-2]
        self.last_run = finished_run(self.program, most, data, helpers)
        return told_of_run(self.last_run)

    def tell_register(self, number):
        if self.last_run is None or not 0 <= number <= LAST_REGISTER:
            return [-1]
        return [self.last_run.registers[number]]

    def tell_stack(self):
        if self.last_run is None:
            return [-1]
        cells = self.last_run.stack.cells
        return [len(cells)] + cells


def are_bytes(row):
    return all([0 <= number <= 255 for number in row])


def is_code(code):
    """Whether a list is the bytes of 1 to 128 instructions."""
    if len(code) == 0 or len(code) % 8 != 0 or len(code) > 8 * MOST_INSTRUCTIONS:
        return False
    return are_bytes(code)


def is_data(data):
    return len(data) <= MOST_DATA and are_bytes(data)


def are_answers(helpers):
    """Whether a list is twos of r0, which is a word, and a code, which may be any number."""
    if len(helpers) % 2 != 0:
        return False
    return all([0 <= helpers[place] <= GREATEST_WORD for place in range(0, len(helpers), 2)])


def answer_of(record, calls):
    """The answer to the next call."""
    number = calls.take()
    if number == 0:
        return record.load(calls.take_row())
    if number == 1:
        return record.judge(calls.take())
    if number == 2:
        place = calls.take()
        return record.tell(place, calls.take())
    if number == 3:
        most = calls.take()
        data = calls.take_row()
        return record.run(most, data, calls.take_row())
    if number == 4:
        return record.tell_register(calls.take())
    if number == 5:
        return record.tell_stack()
    raise CallNotKnown(f"call {number}")


def answers(calls):
    """All answers to the calls on a new record, each behind how many numbers it has."""
    record = Record()
    line = Calls(calls)
    told = []
    while line.has_more():
        answer = answer_of(record, line)
        told.append(len(answer))
        told.extend(answer)
    return told
