"""Promise 9: registers."""

import unittest

from tests.lines import begin, orders, registers, run, start, take, tape, told, words
from tests.setting import set_up


class RegistersTest(unittest.TestCase):

    def test_a_new_machine(self):
        self.assertEqual(told(registers(), begin(), registers()), [[0] * 7, [0], [0] * 7])

    def test_the_accumulators_bits(self):
        for number, lower, others in (
                (1, 1, 0), (2 ** 63, 2 ** 63, 0), (2 ** 64 - 1, 2 ** 64 - 1, 0), (2 ** 64, 0, 1),
                (2 ** 70 - 1, 2 ** 64 - 1, 63), (-1, 2 ** 64 - 1, 127), (-2 ** 70, 0, 64), (-2 ** 64, 0, 127),
                (-2 ** 64 - 1, 2 ** 64 - 1, 126), (5 * 2 ** 64 + 9, 9, 5), (-2, 2 ** 64 - 2, 127)):
            given = told(*set_up(accumulator=number), start(7), registers())[-1]
            self.assertEqual(given, [0, lower, others, 0, 7, 0, 0])

    def test_the_multipliers_bits(self):
        for number, bits in ((1, 1), (2 ** 34 - 1, 2 ** 34 - 1), (-1, 2 ** 35 - 1), (-2 ** 34, 2 ** 34),
                             (-2, 2 ** 35 - 2), (2 ** 17, 2 ** 17), (-2 ** 18, 2 ** 35 - 2 ** 18)):
            given = told(*set_up(multiplier=number), start(7), registers())[-1]
            self.assertEqual(given, [0, 0, 0, bits, 7, 0, 0])

    def test_a_short_multiplier_below_0(self):
        given = told(words(50, [131071]), orders(0, "H50F"), run(1), registers())[-1]
        self.assertEqual(given, [0, 0, 0, 131071 * 2 ** 18, 1, 0, 0])

    def test_stopped_or_not(self):
        given = told(orders(0, "XF ZF XF"), run(1), registers(), run(1), registers(), start(2), registers(), run(1),
                     registers())
        self.assertEqual([answer[0] for answer in given[2::2]], [0, 1, 0, 0])
        self.assertEqual([answer[4] for answer in given[2::2]], [1, 2, 2, 3])

    def test_the_next_place(self):
        for place in (0, 1, 600, 1023):
            self.assertEqual(told(start(place), registers())[1], [0, 0, 0, 0, place, 0, 0])

    def test_the_tape(self):
        given = told(tape([1, 2, 3]), registers(), tape([4]), registers(), orders(0, "I50F I50F"), run(1), registers(),
                     run(1), registers(), tape([]), registers())
        self.assertEqual([answer[5] for answer in given if len(answer) == 7], [3, 4, 3, 2, 2])

    def test_the_printed(self):
        given = told(orders(0, "O50F O50F O50F"), registers(), run(1), registers(), run(2), registers(), take(1),
                     registers(), take(0), registers(), take(9), registers())
        self.assertEqual([answer[6] for answer in given if len(answer) == 7], [0, 1, 3, 2, 2, 0])

    def test_all_together(self):
        given = told(words(50, [131071, 1, 3 << 12]), tape([6, 7, 8]), orders(0, "I60F H50F S51F O52F O52F ZF"), run(9),
                     take(1), registers())
        bits = 2 ** 71 - 2 ** 54
        self.assertEqual(given[-1], [1, bits % 2 ** 64, bits >> 64, 131071 << 18, 6, 2, 1])

    def test_nothing_changes(self):
        given = told(*set_up(accumulator=-5, multiplier=-6, on_tape=[1, 2]), registers(), registers())
        self.assertEqual(given[-1], given[-2])

    def test_whole_numbers(self):
        for answer in told(orders(0, "ZF"), registers(), run(1), registers()):
            for number in answer:
                self.assertIs(type(number), int)


if __name__ == "__main__":
    unittest.main()
