"""Promise 8: look."""

import unittest

from tests.lines import HIGHEST, LOWEST, look, orders, registers, told, words
from tests.setting import behind

WIDES = [1, -1, 2, 256, 65536, LOWEST, HIGHEST]


class LookTest(unittest.TestCase):

    def test_short(self):
        given = told(words(0, [5, 6, 7]), words(1021, [8, 9, 131071]), look(0), look(1), look(2), look(3), look(1020),
                     look(1021), look(1022), look(1023))
        self.assertEqual(given[2:], [[0, 5], [0, 6], [0, 7], [0, 0], [0, 0], [0, 8], [0, 9], [0, 131071]])

    def test_every_place(self):
        row = [k * 127 + 1 for k in range(1024)]
        for first in range(0, 1024, 256):
            places = range(first, first + 256)
            self.assertEqual(told(words(0, row), *[look(place) for place in places])[1:],
                             [[0, row[place]] for place in places])
            self.assertEqual(told(words(0, row), *[look(place, 1) for place in places])[1:],
                             [[0, row[place // 2 * 2] + row[place // 2 * 2 + 1] * 2 ** 18] for place in places])

    def test_wide(self):
        for wide in WIDES:
            given = told(words(0, [5, 6, 7]), words(1021, [8, 9, 131071]), *[look(k, wide) for k in (0, 1, 2, 3)],
                         *[look(k, wide) for k in (1020, 1021, 1022, 1023)])
            first, second = 5 + 6 * 2 ** 18, 9 + 131071 * 2 ** 18
            self.assertEqual(given[2:], [[0, first], [0, first], [0, 7], [0, 7], [0, 8 * 2 ** 18], [0, 8 * 2 ** 18],
                                         [0, second], [0, second]], wide)

    def test_without_a_sign(self):
        for bits in (0, 1, 2 ** 17 - 1, 2 ** 17, 2 ** 18, 2 ** 34 - 1, 2 ** 34, 2 ** 35 - 1, 0x5A5A5A5A5):
            given = behind("XF", [(40, 1), (41, -1), (40, 0), (41, 0)], long_words={40: bits})
            self.assertEqual(given[1:], [bits, bits, bits % 2 ** 17, bits >> 18])

    def test_places_outside(self):
        for place in (-1, 1024, 1025, -1024, LOWEST, HIGHEST):
            for wide in [0] + WIDES:
                self.assertEqual(told(words(0, [5] * 1024), look(place, wide), look(0, 1), registers())[1:],
                                 [[-1], [0, 5 + 5 * 2 ** 18], [0] * 7])

    def test_a_new_machine(self):
        self.assertEqual(told(look(0), look(1023), look(0, 1), look(1023, 1)), [[0, 0]] * 4)

    def test_orders_as_words(self):
        self.assertEqual(told(orders(6, "A5D VF"), look(6), look(7), look(7, 3))[1:],
                         [[0, 114699], [0, 126976], [0, 114699 + 126976 * 2 ** 18]])

    def test_nothing_changes(self):
        self.assertEqual(told(words(8, [1, 2]), look(8), look(9, 1), look(9), look(8, 1), registers())[1:],
                         [[0, 1], [0, 1 + 2 * 2 ** 18], [0, 2], [0, 1 + 2 * 2 ** 18], [0] * 7])


if __name__ == "__main__":
    unittest.main()
