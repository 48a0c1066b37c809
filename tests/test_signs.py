"""Promise 6: the orders I, O and F."""

import unittest

from tests.lines import begin, look, orders, registers, run, start, take, tape, told, words
from tests.setting import behind, read

ONES = 2 ** 35 - 1


class ReadTest(unittest.TestCase):

    def test_the_whole_short_word(self):
        for sign in range(32):
            for place, due in ((40, (ONES >> 17 << 17) + sign), (41, 2 ** 18 - 1 + (sign << 18))):
                given = behind(f"I{place}F", [(40, 1), (place, 0)], on_tape=[sign, 7], long_words={40: ONES},
                               accumulator=-3, multiplier=-5)
                self.assertEqual(given, [(0, -3, -5, 801, 1, 0), due, sign])

    def test_the_whole_long_word(self):
        for sign in range(32):
            for place in (40, 41):
                given = behind(f"I{place}D", [(40, 1), (38, 1), (42, 1)], on_tape=[sign],
                               long_words={38: ONES, 40: ONES, 42: ONES}, accumulator=-3, multiplier=-5)
                self.assertEqual(given, [(0, -3, -5, 801, 0, 0), sign, ONES, ONES])

    def test_places(self):
        for order, place in (("IF", 0), ("I1F", 1), ("I1023F", 1023), ("I1024F", 0), ("I2047F", 1023)):
            self.assertEqual(behind(order, [(place, 0)], on_tape=[30])[1:], [30])

    def test_as_they_were_laid(self):
        row = [3, 0, 31, 17, 17, 1]
        given = told(tape(row[:4]), tape(row[4:]), orders(0, "I50F I51F I52F I53F I54F I55F ZF"), run(9),
                     *[look(50 + k) for k in range(6)], registers())
        self.assertEqual(given[3:-1], [[1, 7]] + [[0, sign] for sign in row])
        self.assertEqual(read(given[-1]).tape, 0)

    def test_signs_laid_between(self):
        given = told(orders(0, "I50F E0F"), tape([4, 5]), run(1), look(50), tape([6]), run(2), look(50), run(2),
                     look(50), registers(), run(2))
        self.assertEqual(given[1:], [[2], [0, 1], [0, 4], [2], [0, 2], [0, 5], [0, 2], [0, 6],
                                     [0, 0, 0, 0, 1, 0, 0], [2, 1]])

    def test_a_long_tape(self):
        row = [(k * k + k // 7) % 32 for k in range(4096)]
        # Each sign is moved up to the highest bits and printed, so that take tells it.
        given = told(tape(row), orders(0, "I50F T51F A50F L1024F T52F O52F E0F"), run(7 * 4096), take(65536))
        self.assertEqual(given[2:], [[0, 7 * 4096], [4096] + row])

    def test_an_empty_tape(self):
        for ending in "FD":
            for place in (50, 51):
                given = told(words(50, [77, 78]), orders(0, f"XF I{place}{ending}"), run(5), registers(), look(50, 1),
                             run(1), run(0), registers())
                due = [0, 0, 0, 0, 1, 0, 0]
                self.assertEqual(given[2:], [[2, 1], due, [0, 77 + 78 * 2 ** 18], [2, 0], [0, 0], due])

    def test_the_tape_has_room_again(self):
        given = told(*[tape([5] * 4096)] * 6, orders(0, "I50F E0F"), run(3), tape([]))
        self.assertEqual(given[-2:], [[0, 3], [6 * 4096 - 2]])


class PrintTest(unittest.TestCase):

    def test_short(self):
        for sign in range(32):
            for rest in (0, 4095):
                given = told(words(40, [sign * 4096 + rest, 21 * 4096]), orders(0, "O40F O41F ZF"), run(9), take(9))
                self.assertEqual(given[2:], [[1, 3], [2, sign, 21]])

    def test_long(self):
        for sign in range(32):
            for rest in (0, 4095):
                given = told(words(40, [21 * 4096, sign * 4096 + rest]), orders(0, "O40D O41D ZF"), run(9), take(9))
                self.assertEqual(given[2:], [[1, 3], [2, sign, sign]])

    def test_nothing_else_changes(self):
        for ending in "FD":
            for place in (40, 41):
                given = behind(f"O{place}{ending}", [(40, 1)], accumulator=-3, multiplier=-5, on_tape=[1],
                               long_words={40: 0x5A5A5A5A5})
                self.assertEqual(given, [(0, -3, -5, 801, 1, 1), 0x5A5A5A5A5])

    def test_places(self):
        for order, place in (("OF", 0), ("O1023F", 1023), ("O1024F", 0), ("O2047F", 1023), ("O1022D", 1023)):
            given = told(words(place, [29 * 4096]), orders(100, order), start(100), run(1), take(2))
            self.assertEqual(given[-1], [1, 29], order)

    def test_the_signs_in_order(self):
        signs = [5, 0, 31, 16, 5]
        given = told(words(40, [sign << 12 for sign in signs]), orders(0, "O40F O41F O42F O43F O44F ZF"), run(9),
                     registers(), take(100))
        self.assertEqual(given[2:], [[1, 6], [1, 0, 0, 0, 6, 0, 5], [5] + signs])


class LastPrintedTest(unittest.TestCase):

    def test_nothing_was_printed(self):
        for place, due in ((40, ONES >> 17 << 17), (41, 2 ** 18 - 1)):
            self.assertEqual(behind(f"F{place}F", [(40, 1)], long_words={40: ONES})[1:], [due])
            self.assertEqual(behind(f"F{place}D", [(40, 1)], long_words={40: ONES})[1:], [0])

    def test_behind_a_sign(self):
        for sign in range(32):
            for place, due in ((40, (ONES >> 17 << 17) + (sign << 12)), (41, 2 ** 18 - 1 + (sign << 30))):
                values = {"long_words": {40: ONES}, "short_words": {50: sign * 4096 + 99}, "accumulator": -3,
                          "multiplier": -5, "steps": 2}
                self.assertEqual(behind(f"O50F F{place}F", [(40, 1), (place, 0)], **values),
                                 [(0, -3, -5, 802, 0, 1), due, sign << 12])
                self.assertEqual(behind(f"O50F F{place}D", [(40, 1)], **values), [(0, -3, -5, 802, 0, 1), sign << 30])

    def test_the_last_of_several(self):
        given = told(words(40, [5 * 4096, 6 * 4096]), orders(0, "O40F F50F O41F F51F F52F O40F F53F ZF"), run(9),
                     *[look(place) for place in range(50, 54)])
        self.assertEqual(given[3:], [[0, 5 << 12], [0, 6 << 12], [0, 6 << 12], [0, 5 << 12]])

    def test_a_zero_behind_another(self):
        given = told(words(40, [5 * 4096, 6]), orders(0, "O40F O41F F50F ZF"), words(50, [9]), run(9), look(50))
        self.assertEqual(given[-2:], [[1, 4], [0, 0]])

    def test_when_all_has_been_taken(self):
        given = told(words(40, [5 * 4096, 6 * 4096]), orders(0, "O40F O41F F50F F51F ZF"), run(2), take(2), run(1),
                     look(50), take(1), run(1), look(51), registers())
        self.assertEqual(given[2:], [[0, 2], [2, 5, 6], [0, 1], [0, 6 << 12], [0], [0, 1], [0, 6 << 12],
                                     [0, 0, 0, 0, 4, 0, 0]])

    def test_when_some_have_been_taken(self):
        given = told(words(40, [5 * 4096, 6 * 4096]), orders(0, "O40F O41F F50F ZF"), run(2), take(1), run(1), look(50))
        self.assertEqual(given[-1], [0, 6 << 12])

    def test_begin_forgets_it(self):
        given = told(words(40, [5 * 4096]), orders(0, "O40F ZF"), run(2), begin(), words(50, [9]), orders(0, "F50F"),
                     run(1), look(50))
        self.assertEqual(given[-2:], [[0, 1], [0, 0]])


if __name__ == "__main__":
    unittest.main()
