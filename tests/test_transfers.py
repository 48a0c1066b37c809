"""Promise 6: the orders T and U, and the bit between."""

import unittest

from tests.lines import look, orders, run, told, words
from tests.setting import behind

ACCUMULATORS = [0, 1, -1, 2 ** 70 - 1, -2 ** 70, 2 ** 36 - 1, 2 ** 36, -2 ** 36, 2 ** 53, 2 ** 54 - 1, 2 ** 54,
                -2 ** 54, 0x2AAAAAAAAAAAAAAAAA, -0x123456789ABCDEF01]
AROUND = [(38, 1), (40, 1), (42, 1)]
BEFORE = {38: 0x5A5A5A5A5, 42: 0x2A5A5A5A5}


class TransfersTest(unittest.TestCase):

    def put(self, order, accumulator, before, due, left):
        given = behind(order, AROUND, accumulator=accumulator, multiplier=-7, long_words={**BEFORE, 40: before})
        self.assertEqual(given, [(0, left, -7, 801, 0, 0), BEFORE[38], due, BEFORE[42]], (order, accumulator, before))

    def test_short(self):
        self.put("T40F", 3 * 2 ** 54 + 5, 0, 3, 0)
        self.put("U41F", -2 ** 54, 0, 131071 << 18, -2 ** 54)
        for accumulator in ACCUMULATORS:
            upper = accumulator % 2 ** 71 >> 54
            # The other short word and the bit between stay as they were, whether they were 0 or 1.
            for others in (0, 2 ** 35 - 1):
                even, odd = (others >> 17 << 17) + upper, others % 2 ** 18 + (upper << 18)
                self.put("T40F", accumulator, others, even, 0)
                self.put("T41F", accumulator, others, odd, 0)
                self.put("U40F", accumulator, others, even, accumulator)
                self.put("U41F", accumulator, others, odd, accumulator)

    def test_long(self):
        self.put("T41D", 3 * 2 ** 36 + 5, 0, 3, 0)
        self.put("U40D", -2 ** 36, 0, 2 ** 35 - 1, -2 ** 36)
        for accumulator in ACCUMULATORS:
            upper = accumulator % 2 ** 71 >> 36
            for others in (0, 2 ** 35 - 1):
                for place in (40, 41):
                    self.put(f"T{place}D", accumulator, others, upper, 0)
                    self.put(f"U{place}D", accumulator, others, upper, accumulator)

    def test_the_bit_that_is_not_looked_at(self):
        for order in ("T1064F", "U1064F"):
            self.put(order, 2 ** 54, 0, 1, 2 ** 54 if order[0] == "U" else 0)
        self.put("T1065D", 2 ** 36, 0, 1, 0)

    def test_the_first_and_the_last_place(self):
        for order, places in (("T0F", (0, 1)), ("TF", (0, 1)), ("T1023F", (1023, 1022))):
            given = behind(order, [(place, 0) for place in places], accumulator=9 * 2 ** 54)
            self.assertEqual(given[1:], [9, 0])
        for order in ("TD", "T1D"):
            self.assertEqual(behind(order, [(0, 1), (2, 0)], accumulator=-1)[1:], [2 ** 35 - 1, 0])
        for order in ("U1022D", "U1023D"):
            self.assertEqual(behind(order, [(1021, 0), (1022, 1)], accumulator=-1)[1:], [0, 2 ** 35 - 1])

    def test_the_bit_between_is_put_by_long_orders(self):
        for place in (40, 41):
            self.put(f"T{place}D", 2 ** 53, 0, 2 ** 17, 0)
            self.put(f"T{place}D", 0, 2 ** 17, 0, 0)
            for order in (f"I{place}D", f"F{place}D"):
                self.assertEqual(behind(order, [(40, 1)], long_words={40: 2 ** 35 - 1}, on_tape=[0])[1:], [0])

    def test_the_bit_between_stays_when_short_words_are_put(self):
        for bit in (0, 2 ** 17):
            for place in (40, 41):
                for order in (f"T{place}F", f"U{place}F", f"I{place}F", f"F{place}F"):
                    self.assertEqual(behind(order, [(40, 1)], long_words={40: bit}, on_tape=[0])[1:], [bit])
        # S of a long 1 makes all 35 bits 1; then calls put short words over both ends.
        ones = [words(20, [1]), orders(0, "S20D T40D S20D T42D ZF"), run(9)]
        given = told(*ones, words(40, [0, 0]), look(40, 1), orders(42, "PF PF"), look(43, 1))
        self.assertEqual(given[-3:], [[0, 2 ** 17], [2], [0, 2 ** 17]])

    def test_to_and_fro(self):
        for number in (0, 1, 2 ** 17, 2 ** 34, 2 ** 35 - 1, 0x5A5A5A5A5):
            given = behind("A40D T50D A51F T52F", [(50, 1), (52, 1)], steps=4, long_words={40: number})
            self.assertEqual(given[1:], [number, number >> 18])


if __name__ == "__main__":
    unittest.main()
