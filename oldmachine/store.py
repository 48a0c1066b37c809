"""The interface: a list of calls on one new machine, and the list of their answers."""

from oldmachine.machine import Machine
from oldmachine.steps import run

BEGIN = 0
WORDS = 1
ORDERS = 2
TAPE = 3
START = 4
RUN = 5
TAKE = 6
LOOK = 7
REGISTERS = 8


class UnknownCall(Exception):
    pass


class Reader:

    def __init__(self, numbers):
        self.numbers = numbers
        self.position = 0

    def has_more(self):
        return self.position < len(self.numbers)

    def next_number(self):
        number = self.numbers[self.position]
        self.position += 1
        return number

    def next_row(self):
        length = self.next_number()
        row = self.numbers[self.position:self.position + length]
        self.position += length
        return row


def answers(calls):
    return answers_of(Machine(), calls)


def answers_of(machine, calls):
    reader = Reader(calls)
    written = []
    while reader.has_more():
        answer = answer_call(machine, reader)
        written.append(len(answer))
        written.extend(answer)
    return written


def answer_call(machine, reader):
    call = reader.next_number()
    if call == BEGIN:
        return [machine.begin()]
    if call == WORDS:
        return answer_words(machine, reader)
    if call == ORDERS:
        return answer_orders(machine, reader)
    if call == TAPE:
        return answer_tape(machine, reader)
    if call == START:
        return [machine.start_at(reader.next_number())]
    if call == RUN:
        return run(machine, reader.next_number())
    if call == TAKE:
        return machine.take(reader.next_number())
    if call == LOOK:
        return answer_look(machine, reader)
    if call == REGISTERS:
        return machine.tell_registers()
    # Without a known form, where the next call begins can't be told.
    raise UnknownCall(f"no call has the number {call}")


def answer_words(machine, reader):
    at = reader.next_number()
    n = reader.next_number()
    words = reader.next_row()
    return [machine.put_words(at, n, words)]


def answer_orders(machine, reader):
    at = reader.next_number()
    n = reader.next_number()
    text = reader.next_row()
    return [machine.put_orders(at, n, text)]


def answer_tape(machine, reader):
    n = reader.next_number()
    signs = reader.next_row()
    return [machine.lay_tape(n, signs)]


def answer_look(machine, reader):
    at = reader.next_number()
    wide = reader.next_number()
    return machine.look(at, wide)
