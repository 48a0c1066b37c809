"""Promise 6: the orders A, S, H, V, N, C and Y, which reckon with the accumulator and the multiplier."""

import unittest

from tests.setting import behind

GREATEST, LEAST = 2 ** 70 - 1, -2 ** 70
ACCUMULATORS = [0, 1, -1, GREATEST, LEAST, 2 ** 35, -2 ** 35 - 1, 0x2AAAAAAAAAAAAAAAAA, -0x123456789ABCDEF01]
SHORTS = [0, 1, -1, 65535, -65536, 0x5555, -0x5556]
LONGS = [0, 1, -1, 2 ** 34 - 1, -2 ** 34, 2 ** 17, -2 ** 17, 2 ** 17 - 1, 2 ** 18, 0x155555555, -0x2468ACE0]


def kept(number):
    """What 71 bits keep of a number."""
    return (number + 2 ** 70) % 2 ** 71 - 2 ** 70


class ReckoningTest(unittest.TestCase):

    def same(self, order, due, due_multiplier=0, **values):
        """The order leaves this accumulator and this multiplier, and no more than the next place is changed."""
        self.assertEqual(behind(order, **values), [(0, due, due_multiplier, 801, 0, 0)], (order, values))

    def for_short_words(self, letter, due):
        for number in SHORTS:
            for place in (40, 41):
                for accumulator in ACCUMULATORS:
                    self.same(f"{letter}{place}F", kept(due(accumulator, number)), accumulator=accumulator,
                              short_words={place: number, place ^ 1: 0x15555})

    def for_long_words(self, letter, due):
        for number in LONGS:
            for place in (40, 41):
                for accumulator in ACCUMULATORS:
                    self.same(f"{letter}{place}D", kept(due(accumulator, number)), accumulator=accumulator,
                              long_words={40: number})

    def test_a_short(self):
        self.same("A40F", 3 * 2 ** 54, short_words={40: 3, 41: 8})
        self.same("A41F", 8 * 2 ** 54, short_words={40: 3, 41: 8})
        self.same("A40F", -2 ** 54, short_words={40: 131071})
        self.for_short_words("A", lambda accumulator, number: accumulator + number * 2 ** 54)

    def test_a_long(self):
        self.same("A40D", (3 + 8 * 2 ** 18) * 2 ** 36, short_words={40: 3, 41: 8})
        self.same("A41D", (3 + 8 * 2 ** 18) * 2 ** 36, short_words={40: 3, 41: 8})
        self.same("A41D", 131072 * 2 ** 36, long_words={40: 131072})
        self.for_long_words("A", lambda accumulator, number: accumulator + number * 2 ** 36)

    def test_s_short(self):
        self.same("S40F", -3 * 2 ** 54, short_words={40: 3, 41: 8})
        self.same("S41F", 2 ** 54, short_words={41: 131071})
        self.for_short_words("S", lambda accumulator, number: accumulator - number * 2 ** 54)

    def test_s_long(self):
        self.same("S41D", -3 * 2 ** 36, long_words={40: 3})
        self.for_long_words("S", lambda accumulator, number: accumulator - number * 2 ** 36)

    def test_what_goes_beyond_is_lost(self):
        self.same("A40F", LEAST, accumulator=2 ** 70 - 2 ** 54, short_words={40: 1})
        self.same("A40F", 2 ** 70 - 2 ** 54, accumulator=LEAST, short_words={40: -1})
        self.same("S40F", 2 ** 70 - 2 ** 54, accumulator=LEAST, short_words={40: 1})
        self.same("S40F", LEAST, accumulator=0, short_words={40: -65536})
        self.same("A40F", 0, accumulator=LEAST, short_words={40: -65536})
        self.same("A40D", LEAST + 2 ** 36 - 1, accumulator=GREATEST, long_words={40: 1})
        self.same("S40D", LEAST, accumulator=0, long_words={40: -2 ** 34})

    def test_h_short(self):
        self.same("H40F", 0, 3 * 2 ** 18, short_words={40: 3, 41: 8})
        for number in SHORTS:
            for place in (40, 41):
                for multiplier in (0, -1, 77):
                    self.same(f"H{place}F", -5, number * 2 ** 18, accumulator=-5, multiplier=multiplier,
                              short_words={place: number, place ^ 1: 0x15555})

    def test_h_long(self):
        self.same("H41D", 0, 3 + 8 * 2 ** 18, short_words={40: 3, 41: 8})
        for number in LONGS:
            for place in (40, 41):
                for multiplier in (0, -1, 77):
                    self.same(f"H{place}D", 2 ** 69, number, accumulator=2 ** 69, multiplier=multiplier,
                              long_words={40: number})

    def for_products(self, letter, sign):
        for multiplier in LONGS:
            for accumulator in (0, 5, GREATEST, LEAST):
                for number in SHORTS:
                    due = kept(accumulator + sign * multiplier * number * 2 ** 20)
                    self.same(f"{letter}41F", due, multiplier, accumulator=accumulator, multiplier=multiplier,
                              short_words={41: number})
                for number in LONGS:
                    due = kept(accumulator + sign * multiplier * number * 4)
                    self.same(f"{letter}40D", due, multiplier, accumulator=accumulator, multiplier=multiplier,
                              long_words={40: number})

    def test_v(self):
        self.same("V40F", 3 * 5 * 2 ** 18 * 4, 5, multiplier=5, short_words={40: 3})
        self.same("V41F", -3 * 5 * 2 ** 20, 5, multiplier=5, short_words={41: -3})
        self.same("V41D", 7 * 9 * 4 + 1, 9, accumulator=1, multiplier=9, long_words={40: 7})
        self.same("V40D", 7 * 9 * 4, -9, multiplier=-9, long_words={40: -7})
        self.for_products("V", 1)

    def test_n(self):
        self.same("N40F", -3 * 5 * 2 ** 20, 5, multiplier=5, short_words={40: 3})
        self.same("N41D", 1 - 7 * 9 * 4, 9, accumulator=1, multiplier=9, long_words={40: 7})
        self.for_products("N", -1)

    def test_the_greatest_products(self):
        least = -2 ** 34
        self.same("V40D", LEAST, least, multiplier=least, long_words={40: least})
        self.same("N40D", LEAST, least, multiplier=least, long_words={40: least})
        self.same("V40F", LEAST, least, multiplier=least, short_words={40: -65536})
        self.same("V40D", 4 * (2 ** 34 - 1) ** 2, 2 ** 34 - 1, multiplier=2 ** 34 - 1, long_words={40: 2 ** 34 - 1})

    def test_c(self):
        self.same("C40D", 0b1000 * 2 ** 36, 0b1100, multiplier=0b1100, long_words={40: 0b1010})
        self.same("C41F", 0b1000 * 2 ** 54, 0b1100 << 18, multiplier=0b1100 << 18, short_words={41: 0b1010})
        self.same("C40F", 0, 2 ** 18 - 1, multiplier=2 ** 18 - 1, short_words={40: -1})
        self.same("C40D", -2 ** 34 * 2 ** 36, -2 ** 34, multiplier=-2 ** 34, long_words={40: -1})
        for multiplier in LONGS:
            for accumulator in (0, 5, GREATEST, LEAST):
                for number in SHORTS:
                    due = kept(accumulator + (multiplier % 2 ** 35 & (number % 2 ** 17) * 2 ** 18) * 2 ** 36)
                    self.same("C41F", due, multiplier, accumulator=accumulator, multiplier=multiplier,
                              short_words={41: number})
                for number in LONGS:
                    due = kept(accumulator + (multiplier % 2 ** 35 & number % 2 ** 35) * 2 ** 36)
                    self.same("C40D", due, multiplier, accumulator=accumulator, multiplier=multiplier,
                              long_words={40: number})

    def test_y(self):
        for accumulator in ACCUMULATORS + [2 ** 70 - 2 ** 35, 2 ** 70 - 2 ** 35 - 1]:
            for order in ("YF", "YD", "Y40F", "Y2047D"):
                self.same(order, kept(accumulator + 2 ** 35), 9, accumulator=accumulator, multiplier=9)
        self.same("YF", LEAST, accumulator=2 ** 70 - 2 ** 35)
        self.same("YF", 2 ** 35)

    def test_the_bit_that_is_not_looked_at(self):
        for order, due in (("A1064F", 3 * 2 ** 54), ("S1064F", -3 * 2 ** 54), ("V1064F", 7 * 3 * 2 ** 20),
                           ("N1064F", -7 * 3 * 2 ** 20), ("C1064D", 3 * 2 ** 36)):
            self.same(order, due, 7, multiplier=7, short_words={40: 3})
        self.same("H1064D", 0, 3, short_words={40: 3})

    def test_the_words_stay(self):
        for letter in "ASHVNC":
            for ending in "FD":
                given = behind(f"{letter}41{ending}", [(39, 0), (40, 1), (42, 0)], accumulator=-3, multiplier=-5,
                               long_words={40: 0x5A5A5A5A5})
                self.assertEqual(given[1:], [0, 0x5A5A5A5A5, 0])

    def test_the_first_and_the_last_place(self):
        self.same("A0F", 6 * 2 ** 54, short_words={0: 6})
        self.same("AF", 6 * 2 ** 54, short_words={0: 6})
        self.same("A1D", 6 * 2 ** 36, short_words={0: 6})
        self.same("A1023F", 6 * 2 ** 54, short_words={1023: 6})
        self.same("A1022D", 6 * 2 ** 54, short_words={1023: 6})
        self.same("A1023D", 6 * 2 ** 36, short_words={1022: 6})


if __name__ == "__main__":
    unittest.main()
