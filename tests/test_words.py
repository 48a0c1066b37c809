"""Promise 2: words."""

import unittest

from oldmachine.machine import Machine
from oldmachine.store import answers_of
from tests.lines import HIGHEST, LOWEST, NEW, changed, done, state, stored, words

KEPT = words(500, [1, 2, 3])
KEPT_STATE = changed(short_words=stored(500, [1, 2, 3]))


class WordsTest(unittest.TestCase):

    def refused(self, call):
        machine, given = done(KEPT, call)
        self.assertEqual(given, [0, -1])
        self.assertEqual(state(machine), KEPT_STATE)

    def put(self, at, row):
        machine, given = done(words(at, row))
        self.assertEqual(given, [0])
        self.assertEqual(state(machine), changed(short_words=stored(at, row)))

    def test_some_words(self):
        self.put(0, [1])
        self.put(1, [131071, 0, 17])
        self.put(77, list(range(1, 101)))

    def test_words_over_earlier_ones(self):
        machine, given = done(KEPT, words(501, [0, 9, 8]))
        self.assertEqual(given, [0, 0])
        self.assertEqual(state(machine), changed(short_words=stored(500, [1, 0, 9, 8])))

    def test_no_words(self):
        for at in (0, 1, 1023, 1024):
            machine, given = done(KEPT, words(at, []))
            self.assertEqual(given, [0, 0])
            self.assertEqual(state(machine), KEPT_STATE)

    def test_all_places(self):
        self.put(0, list(range(1, 1025)))

    def test_just_enough_places(self):
        self.put(1023, [5])
        self.put(1, list(range(1, 1024)))
        self.put(1014, list(range(1, 11)))

    def test_one_place_too_few(self):
        self.refused(words(1024, [5]))
        self.refused(words(1023, [5, 6]))
        self.refused(words(1, [4] * 1024))
        self.refused(words(1015, [4] * 10))

    def test_n_outside(self):
        for n in (-1, 1025, LOWEST, HIGHEST):
            self.refused(words(0, [], n))

    def test_at_outside(self):
        for at in (-1, 1025, LOWEST, HIGHEST):
            self.refused(words(at, []))
            self.refused(words(at, [5]))
        self.refused(words(-1, [5, 6]))
        self.refused(words(-1024, [5] * 1024))

    def test_highest_word(self):
        self.put(3, [131071])
        self.put(0, [131071] * 1024)

    def test_words_too_high(self):
        for high in (131072, 131073, 262143, 2147483648, 4294967295):
            self.refused(words(0, [high]))
            self.refused(words(0, [high, 1, 2]))
            self.refused(words(0, [1, high, 2]))
            self.refused(words(0, [1, 2, high]))
        self.refused(words(0, [9] * 1023 + [131072]))

    def test_the_bit_between_stays(self):
        for bit in (0, 1):
            machine = Machine()
            machine.bits_between = [bit] * 512
            self.assertEqual(answers_of(machine, words(6, [131071, 131071])), [1, 0])
            self.assertEqual(machine.bits_between, [bit] * 512)

    def test_nothing_else_changes(self):
        machine = Machine()
        machine.next_place = 12
        machine.stopped = True
        machine.tape = [3]
        before = state(machine)
        self.assertEqual(answers_of(machine, words(0, [8])), [1, 0])
        self.assertEqual(state(machine), {**before, "short_words": stored(0, [8])})

    def test_a_new_machine_behind_a_refusal(self):
        machine, given = done(words(0, [131072]))
        self.assertEqual(given, [-1])
        self.assertEqual(state(machine), NEW)


if __name__ == "__main__":
    unittest.main()
