"""Promise 4: tape."""

import unittest

from oldmachine.machine import Machine
from oldmachine.store import answers_of
from tests.lines import HIGHEST, LOWEST, changed, done, state, tape

KEPT = tape([7, 8])
KEPT_STATE = changed(tape=[7, 8])


def filled(many):
    machine = Machine()
    while len(machine.tape) < many:
        answers_of(machine, tape([4] * min(4096, many - len(machine.tape))))
    return machine


class TapeTest(unittest.TestCase):

    def refused(self, call):
        machine, given = done(KEPT, call)
        self.assertEqual(given, [2, -1])
        self.assertEqual(state(machine), KEPT_STATE)

    def test_signs_behind_one_another(self):
        machine, given = done(tape([1, 2, 3]), tape([31]), tape([0, 0]))
        self.assertEqual(given, [3, 4, 6])
        self.assertEqual(state(machine), changed(tape=[1, 2, 3, 31, 0, 0]))

    def test_every_sign(self):
        machine, given = done(tape(list(range(32))))
        self.assertEqual(given, [32])
        self.assertEqual(machine.tape, list(range(32)))

    def test_no_signs(self):
        self.assertEqual(done(tape([]))[1], [0])
        machine, given = done(KEPT, tape([]))
        self.assertEqual(given, [2, 2])
        self.assertEqual(state(machine), KEPT_STATE)

    def test_longest_piece(self):
        row = [k % 32 for k in range(4096)]
        machine, given = done(KEPT, tape(row))
        self.assertEqual(given, [2, 4098])
        self.assertEqual(machine.tape, [7, 8] + row)

    def test_n_outside(self):
        for n in (-1, 4097, LOWEST, HIGHEST):
            self.refused(tape([], n))

    def test_signs_too_high(self):
        for high in (32, 33, 64, 255):
            self.refused(tape([high]))
            self.refused(tape([high, 1, 2]))
            self.refused(tape([1, high, 2]))
            self.refused(tape([1, 2, high]))
        self.refused(tape([31] * 4095 + [32]))

    def test_the_tape_filled(self):
        machine = Machine()
        for piece in range(1, 17):
            self.assertEqual(answers_of(machine, tape([piece] * 4096)), [1, 4096 * piece])
        self.assertEqual(answers_of(machine, tape([1])), [1, -1])
        self.assertEqual(answers_of(machine, tape([1] * 4096)), [1, -1])
        self.assertEqual(answers_of(machine, tape([])), [1, 65536])
        self.assertEqual(machine.tape, [1 + k // 4096 for k in range(65536)])

    def test_one_sign_more_than_there_is_room_for(self):
        machine = filled(65535)
        self.assertEqual(answers_of(machine, tape([1, 2])), [1, -1])
        self.assertEqual(machine.tape, [4] * 65535)
        self.assertEqual(answers_of(machine, tape([1])), [1, 65536])
        self.assertEqual(machine.tape, [4] * 65535 + [1])
        machine = filled(61441)
        self.assertEqual(answers_of(machine, tape([1] * 4096)), [1, -1])
        self.assertEqual(answers_of(machine, tape([1] * 4095)), [1, 65536])

    def test_nothing_else_changes(self):
        machine = Machine()
        machine.next_place = 12
        machine.stopped = True
        machine.printed = [5]
        machine.last_printed = 5
        before = state(machine)
        self.assertEqual(answers_of(machine, tape([1])), [1, 1])
        self.assertEqual(state(machine), {**before, "tape": [1]})


if __name__ == "__main__":
    unittest.main()
