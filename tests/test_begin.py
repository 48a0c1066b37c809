"""Promise 1: begin."""

import unittest

from oldmachine.machine import Machine
from oldmachine.store import answers, answers_of
from tests.lines import NEW, begin, done, orders, start, state, tape, words


def used_machine():
    machine = Machine()
    machine.short_words = [131071] * 1024
    machine.bits_between = [1] * 512
    machine.accumulator = -1
    machine.multiplier = -2
    machine.next_place = 1023
    machine.tape = [31, 0, 1]
    machine.printed = [5, 6]
    machine.last_printed = 6
    machine.stopped = True
    return machine


class BeginTest(unittest.TestCase):

    def test_at_the_beginning(self):
        machine = Machine()
        self.assertEqual(answers_of(machine, begin()), [1, 0])
        self.assertEqual(state(machine), NEW)

    def test_everything_is_as_new_again(self):
        machine = used_machine()
        self.assertEqual(answers_of(machine, begin()), [1, 0])
        self.assertEqual(state(machine), NEW)

    def test_behind_other_calls(self):
        machine, given = done(words(0, [1, 2]), orders(1000, "A5D ZF"), tape([1, 2, 3]), start(9), begin())
        self.assertEqual(given, [0, 2, 3, 0, 0])
        self.assertEqual(state(machine), NEW)

    def test_the_tape_is_gone(self):
        self.assertEqual(done(tape([1, 2, 3]), begin(), tape([4]))[1], [3, 0, 1])

    def test_many_times(self):
        self.assertEqual(answers([0] * 400), [1, 0] * 400)

    def test_machines_share_nothing(self):
        first, second = Machine(), Machine()
        answers_of(first, words(0, [7]) + tape([1]))
        self.assertEqual(state(second), NEW)


if __name__ == "__main__":
    unittest.main()
