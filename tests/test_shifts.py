"""Promise 6: the orders R and L, by every number of places that an order can say."""

import unittest

from tests.setting import behind

ACCUMULATORS = [0, 1, -1, 2, -2, 2 ** 70 - 1, -2 ** 70, 2 ** 69, 0x2AAAAAAAAAAAAAAAAA, -0x123456789ABCDEF01,
                0x155555555555555555]
# The lowest 1 is the long bit, then one of n's ten, then the one that isn't looked at else, then one of the sign's.
PLACES = [("D", 1)] + [(f"{2 ** k}F", k + 2) for k in range(11)]


class ShiftsTest(unittest.TestCase):

    def shifted(self, order, accumulator, due):
        given = behind(order, accumulator=accumulator, multiplier=-7)
        self.assertEqual(given, [(0, due, -7, 801, 0, 0)], (order, accumulator))

    def test_right(self):
        self.shifted("RD", 6, 3)
        self.shifted("R1F", 24, 6)
        self.shifted("RD", -1, -1)
        self.shifted("RD", -3, -2)
        for accumulator in ACCUMULATORS:
            for written, places in PLACES + [("F", 15)]:
                self.shifted("R" + written, accumulator, accumulator // 2 ** places)

    def test_left(self):
        self.shifted("LD", 3, 6)
        self.shifted("L1F", -3, -12)
        self.shifted("LD", 2 ** 69, -2 ** 70)
        self.shifted("LD", -2 ** 70, 0)
        for accumulator in ACCUMULATORS:
            for written, places in PLACES + [("F", 13)]:
                due = (accumulator * 2 ** places + 2 ** 70) % 2 ** 71 - 2 ** 70
                self.shifted("L" + written, accumulator, due)

    def test_bits_above_the_lowest_one(self):
        for written, places in (("2047D", 1), ("2047F", 2), ("2046F", 3), ("3F", 2), ("1536F", 11), ("1025F", 2),
                                ("1024D", 1), ("1024F", 12), ("96F", 7)):
            self.shifted("R" + written, 2 ** 60, 2 ** (60 - places))
            self.shifted("L" + written, 2 ** 20, 2 ** (20 + places))

    def test_no_word_is_looked_at_or_put(self):
        for order in ("R16F", "L16F"):
            self.assertEqual(behind(order, [(16, 1)], long_words={16: 0x5A5A5A5A5}, accumulator=-9)[1:], [0x5A5A5A5A5])


if __name__ == "__main__":
    unittest.main()
