"""Promise 6: the orders E, G and X, and where the next order is."""

import unittest

from tests.lines import look, orders, registers, run, start, tape, told, words
from tests.setting import behind, read

NOT_BELOW = [0, 1, 2 ** 35, 2 ** 54, 2 ** 64, 2 ** 70 - 1]
BELOW = [-1, -2, -2 ** 35, -2 ** 54, -2 ** 64, -2 ** 70]


class JumpsTest(unittest.TestCase):

    def goes_to(self, order, accumulator, due, at=800):
        given = behind(order, [(30, 1)], at=at, accumulator=accumulator, multiplier=-7, long_words={30: 0x5A5A5A5A5})
        self.assertEqual(given, [(0, accumulator, -7, due, 0, 0), 0x5A5A5A5A5], (order, accumulator))

    def test_not_below_0(self):
        for accumulator in NOT_BELOW:
            self.goes_to("E30F", accumulator, 30)
            self.goes_to("G30F", accumulator, 801)

    def test_below_0(self):
        for accumulator in BELOW:
            self.goes_to("E30F", accumulator, 801)
            self.goes_to("G30F", accumulator, 30)

    def test_places(self):
        for place in (0, 1, 2, 511, 512, 799, 800, 801, 1022, 1023):
            for ending in "FD":
                self.goes_to(f"E{place}{ending}", 0, place)
                self.goes_to(f"G{place}{ending}", -1, place)
                # The bit that isn't looked at.
                self.goes_to(f"E{1024 + place}{ending}", 0, place)
                self.goes_to(f"G{1024 + place}{ending}", -1, place)

    def test_behind_1023_comes_0(self):
        for order in ("XF", "A5F", "U30D", "G7F", "Y9F", "R4F"):
            given = told(orders(1023, order), start(1023), run(1), registers())
            self.assertEqual(given[-2], [0, 1])
            self.assertEqual(read(given[-1]).next_place, 0, order)
        given = told(orders(1022, "XF XF"), orders(0, "XF ZF"), start(1022), run(10), registers())
        self.assertEqual(given[-2:], [[1, 4], [1, 0, 0, 0, 2, 0, 0]])
        self.assertEqual(told(orders(1023, "ZF"), start(1023), run(1), registers())[-2:],
                         [[1, 1], [1, 0, 0, 0, 0, 0, 0]])

    def test_x(self):
        for order in ("XF", "XD", "X30F", "X31D", "X2047D"):
            for accumulator in (5, -5):
                self.goes_to(order, accumulator, 801)

    def test_an_endless_loop(self):
        self.assertEqual(told(orders(0, "E0F"), run(1000), registers())[-2:], [[0, 1000], [0, 0, 0, 0, 0, 0, 0]])

    def test_counting_down(self):
        # 20 has how often is left, below 0; 21 has 1; the sum at 22 grows by 3 each time.
        program = "A22F A23F T22F A20F A21F U20F G30F ZF"
        given = told(words(20, [131072 - 5, 1, 0, 3]), orders(30, "T24F E0F"), orders(0, program), run(7),
                     run(1000), look(22), look(20), registers())
        self.assertEqual(given[-5:], [[0, 7], [1, 37], [0, 15], [0, 0], [1, 0, 0, 0, 8, 0, 0]])

    def test_an_order_that_changes_the_next_one(self):
        given = told(words(20, [13 * 4096]), orders(0, "A20F T2F XF ZF"), run(9), registers())
        self.assertEqual(given[-2:], [[1, 3], [1, 0, 0, 0, 3, 0, 0]])

    def test_an_order_that_changes_itself(self):
        # The order is done as it was; what stands in its place is done when it comes again.
        given = told(words(20, [13 * 4096]), orders(0, "A20F T1F E0F"), run(2), look(1), run(9), registers())
        self.assertEqual(given[-4:-1], [[0, 2], [0, 13 * 4096], [1, 3]])

    def test_orders_put_by_long_words_and_from_the_tape(self):
        given = told(words(20, [26 * 4096, 13 * 4096]), orders(0, "A20D T3D XF XF XF XF"), run(9), look(2), look(3))
        self.assertEqual(given[-3:], [[1, 4], [0, 26 * 4096], [0, 13 * 4096]])
        given = told(orders(0, "ZF I1F"), tape([9]), start(1), run(3), look(1))
        self.assertEqual(given[-2:], [[3, 1], [0, 9]])


if __name__ == "__main__":
    unittest.main()
