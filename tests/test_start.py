"""Promise 5: start."""

import unittest

from oldmachine.machine import Machine
from oldmachine.store import answers_of
from tests.lines import HIGHEST, LOWEST, changed, done, start, state


class StartTest(unittest.TestCase):

    def test_places(self):
        for place in (0, 1, 2, 512, 1022, 1023):
            machine, given = done(start(place))
            self.assertEqual(given, [0])
            self.assertEqual(state(machine), changed(next_place=place))

    def test_again(self):
        machine, given = done(start(1023), start(0), start(31))
        self.assertEqual(given, [0, 0, 0])
        self.assertEqual(machine.next_place, 31)

    def test_places_outside(self):
        for place in (-1, 1024, 1025, -1023, LOWEST, HIGHEST):
            machine, given = done(start(8), start(place))
            self.assertEqual(given, [0, -1])
            self.assertEqual(state(machine), changed(next_place=8))

    def test_not_stopped(self):
        machine = Machine()
        machine.stopped = True
        machine.accumulator = -5
        before = state(machine)
        self.assertEqual(answers_of(machine, start(6)), [1, 0])
        self.assertEqual(state(machine), {**before, "next_place": 6, "stopped": False})

    def test_still_stopped_behind_a_refusal(self):
        machine = Machine()
        machine.stopped = True
        for place in (-1, 1024):
            self.assertEqual(answers_of(machine, start(place)), [1, -1])
            self.assertEqual(state(machine), changed(stopped=True))


if __name__ == "__main__":
    unittest.main()
