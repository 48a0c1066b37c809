"""Promise 7: take."""

import unittest

from tests.lines import HIGHEST, LOWEST, begin, look, orders, registers, run, take, told, words

SIGNS_PRINTED = [3, 31, 0, 17, 5, 5]
PRINTING = [words(50, [sign << 12 for sign in SIGNS_PRINTED]), orders(0, "O50F O51F O52F O53F O54F O55F ZF"), run(9)]
# Every O prints the sign of the order at place 0, which is O's own: 9.
PRINT_ALL = words(0, [9 * 4096] * 1024)


def told_behind_printing(*calls):
    return told(*PRINTING, *calls)[3:]


class TakeTest(unittest.TestCase):

    def test_fewer_than_there_are(self):
        self.assertEqual(told_behind_printing(take(1), take(2), take(1), registers()),
                         [[1, 3], [2, 31, 0], [1, 17], [1, 0, 0, 0, 7, 0, 2]])

    def test_as_many_as_there_are(self):
        self.assertEqual(told_behind_printing(take(6), registers(), take(6)),
                         [[6] + SIGNS_PRINTED, [1, 0, 0, 0, 7, 0, 0], [0]])

    def test_one_fewer_and_one_more(self):
        self.assertEqual(told_behind_printing(take(5), take(5)), [[5] + SIGNS_PRINTED[:5], [1, 5]])
        self.assertEqual(told_behind_printing(take(7), take(7)), [[6] + SIGNS_PRINTED, [0]])

    def test_more_than_there_are(self):
        for most in (8, 65535, 65536):
            self.assertEqual(told_behind_printing(take(most), registers()),
                             [[6] + SIGNS_PRINTED, [1, 0, 0, 0, 7, 0, 0]])

    def test_most_outside(self):
        for most in (0, -1, 65537, LOWEST, HIGHEST):
            self.assertEqual(told_behind_printing(take(most), registers(), take(65536)),
                             [[0], [1, 0, 0, 0, 7, 0, 6], [6] + SIGNS_PRINTED])

    def test_nothing_printed(self):
        for most in (1, 2, 65536, 0, -1, 65537):
            self.assertEqual(told(take(most), registers()), [[0], [0] * 7])

    def test_more_printed_behind_those_left(self):
        given = told(words(50, [1 << 12, 2 << 12, 3 << 12]), orders(0, "O50F O51F O52F E0F"), run(2), take(1), run(3),
                     take(2), run(2), take(9))
        self.assertEqual(given[2:], [[0, 2], [1, 1], [0, 3], [2, 2, 3], [0, 2], [3, 1, 2, 3]])

    def test_the_most_that_may_wait(self):
        # The last order of all prints another sign: that of the word at 1.
        given = told(PRINT_ALL, run(65536), words(0, [9 * 4096 + 2, 21 * 4096]), run(1), registers(),
                     take(65537), take(65536), registers(), take(65536), registers())
        self.assertEqual(given[3:], [[0, 1], [0, 0, 0, 0, 1, 0, 65537], [0], [65536] + [9] * 65536,
                                     [0, 0, 0, 0, 1, 0, 1], [1, 21], [0, 0, 0, 0, 1, 0, 0]])

    def test_the_first_ones_first_of_many(self):
        # The word at 50 grows by one sign each time round.
        given = told(words(50, [0, 1 << 12]), orders(0, "O50F A50F A51F T50F E0F"), run(5 * 1000), take(999), take(1),
                     take(1))
        self.assertEqual(given[3:], [[999] + [k % 32 for k in range(999)], [1, 999 % 32], [0]])

    def test_nothing_else_changes(self):
        given = told_behind_printing(registers(), take(4), registers(), look(50, 1), look(55))
        self.assertEqual(given, [[1, 0, 0, 0, 7, 0, 6], [4, 3, 31, 0, 17], [1, 0, 0, 0, 7, 0, 2],
                                 [0, (3 << 12) + (31 << 30)], [0, 5 << 12]])

    def test_begin_leaves_nothing(self):
        self.assertEqual(told_behind_printing(begin(), take(9)), [[0], [0]])

    def test_ten_takes(self):
        self.assertEqual(told_behind_printing(*[take(1)] * 10), [[1, sign] for sign in SIGNS_PRINTED] + [[0]] * 4)


if __name__ == "__main__":
    unittest.main()
