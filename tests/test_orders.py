"""Promise 3: orders, and programs in letters."""

import unittest

from oldmachine.machine import Machine
from oldmachine.store import answers_of
from tests.lines import HIGHEST, LOWEST, SIGNS, changed, done, orders, state, stored, words

KEPT = words(0, [1, 2, 3])
KEPT_STATE = changed(short_words=stored(0, [1, 2, 3]))
A = 28 * 4096


class OrdersTest(unittest.TestCase):

    def refused(self, call):
        machine, given = done(KEPT, call)
        self.assertEqual(given, [0, -1])
        self.assertEqual(state(machine), KEPT_STATE)

    def put(self, text, row, at=5):
        machine, given = done(orders(at, text))
        self.assertEqual(given, [len(row)])
        self.assertEqual(state(machine), changed(short_words=stored(at, row)))

    def test_a_program(self):
        self.put("T100F A5D\nZF", [5 * 4096 + 200, 28 * 4096 + 11, 13 * 4096])
        self.put("E2047D", [3 * 4096 + 4095])

    def test_every_sign(self):
        self.assertEqual(len(SIGNS), 32)
        for number, sign in enumerate(SIGNS):
            self.put(sign + "F", [number * 4096])
            self.put(sign + "D", [number * 4096 + 1])
            self.put(sign + "3F", [number * 4096 + 6])
            self.put(sign + "2047D", [number * 4096 + 4095])
        self.put(" ".join(sign + "1F" for sign in SIGNS), [number * 4096 + 2 for number in range(32)])

    def test_no_sign(self):
        taken = [ord(sign) for sign in SIGNS]
        for code in range(256):
            if code not in taken:
                self.refused(orders(0, [code, ord("1"), ord("F")]))
        self.refused(orders(0, "a1F"))

    def test_digits(self):
        self.put("AF", [A])
        self.put("A0F", [A])
        self.put("A7F", [A + 14])
        self.put("A9D", [A + 19])
        self.put("A10F", [A + 20])
        self.put("A123F", [A + 246])
        self.put("A1024F", [A + 2048])
        self.put("A0000D", [A + 1])
        self.put("A0012F", [A + 24])
        self.put("A01F", [A + 2])

    def test_every_number(self):
        for number in range(2048):
            machine, given = done(orders(0, f"A{number}F A{number:04}D"))
            self.assertEqual(given, [2])
            self.assertEqual(machine.short_words[:2], [A + 2 * number, A + 2 * number + 1])

    def test_five_digits(self):
        for text in ("A00000F", "A00001F", "A02047D", "A10000F", "A20470F"):
            self.refused(orders(0, text))
        self.refused(orders(0, "A" + "0" * 16382 + "F"))

    def test_number_too_high(self):
        for text in ("A2048F", "A2048D", "A2049F", "A3000F", "A9999D"):
            self.refused(orders(0, text))

    def test_ending(self):
        for code in range(256):
            if code not in (ord("F"), ord("D")):
                self.refused(orders(0, [ord("A"), ord("1"), code]))
                self.refused(orders(0, [ord("A"), code]))

    def test_signs_that_are_endings_too(self):
        self.put("FF FD DF DD", [17 * 4096, 17 * 4096 + 1, 19 * 4096, 19 * 4096 + 1])
        self.put("F1F D2D", [17 * 4096 + 2, 19 * 4096 + 5])
        for text in ("F", "D", "F1", "D1", "FFF", "FDF", "DDD", "AFD", "AFF", "A1FD", "A1FF"):
            self.refused(orders(0, text))

    def test_within_an_order(self):
        for text in ("A", "1", "1F", "A1", "A 1F", "A1 F", "A F", "A\n1F", "A1\nF", "A-1F", "A+1F", "A1.F",
                     "A1AF", "AAF", "A1_0F", "a1F", "A1f", "A1d", "A12 34F", "A1F F", "A1F 2F"):
            self.refused(orders(0, text))

    def test_other_numbers_as_digits(self):
        for code in range(256):
            if not 48 <= code <= 57:
                self.refused(orders(0, [ord("A"), code, ord("1"), ord("F")]))
                self.refused(orders(0, [ord("A"), ord("1"), code, ord("F")]))

    def test_between_two_orders(self):
        row = [A + 2, A + 5]
        for between in (" ", "\n", "  ", "\n\n", " \n", "\n ", " \n \n\n   "):
            self.put("A1F" + between + "A2D", row)

    def test_before_and_behind(self):
        for around in (" ", "\n", "   ", "\n\n", " \n \n"):
            self.put(around + "A1F", [A + 2])
            self.put("A1F" + around, [A + 2])
            self.put(around + "A1F A2D" + around, [A + 2, A + 5])

    def test_nothing_between_two(self):
        for text in ("A1FA2D", "AFAF", "ZFZF", "A1F A2FA3F", "A1FA2F A3F"):
            self.refused(orders(0, text))

    def test_other_numbers_between_two(self):
        for code in range(256):
            if code not in (10, 32):
                self.refused(orders(0, [65, 49, 70, code, 65, 50, 68]))
                self.refused(orders(0, [65, 49, 70, 32, code, 32, 65, 50, 68]))

    def test_other_numbers_before_and_behind(self):
        for code in range(256):
            if code not in (10, 32):
                self.refused(orders(0, [65, 49, 70, code]))
                self.refused(orders(0, [65, 49, 70, 32, code]))
                self.refused(orders(0, [code, 32, 65, 49, 70]))
                self.refused(orders(0, [code]))

    def test_no_orders(self):
        for text in ("", " ", "\n", " \n  \n"):
            for at in (0, 5, 1023, 1024):
                machine, given = done(KEPT, orders(at, text))
                self.assertEqual(given, [0, 0])
                self.assertEqual(state(machine), KEPT_STATE)

    def test_a_fault_at_the_end_puts_nothing(self):
        self.refused(orders(0, "A1F A2F A3F A4"))
        self.refused(orders(0, "A1F " * 1000 + "A2048F"))

    def test_n_outside(self):
        for n in (-1, 16385, LOWEST, HIGHEST):
            self.refused(orders(0, "", n))
            self.refused(orders(1024, "", n))

    def test_longest_text(self):
        self.put(" " * 16384, [])
        self.put(" " * 16381 + "A1F", [A + 2])
        self.put("A1F" + "\n" * 16381, [A + 2])
        self.put("A2047D" + " " * 10 + "\n".join(["A0001F     "] * 1000), [A + 4095] + [A + 2] * 1000)

    def test_at_outside(self):
        for at in (-1, 1025, LOWEST, HIGHEST):
            self.refused(orders(at, ""))
            self.refused(orders(at, "A1F"))
            self.refused(orders(at, "A1F A2F"))

    def test_just_enough_places(self):
        self.put("A1F", [A + 2], 1023)
        self.put("A1F A2D", [A + 2, A + 5], 1022)
        self.put("A1F " * 1024, [A + 2] * 1024, 0)
        self.put("A1F\n" * 1023, [A + 2] * 1023, 1)

    def test_one_place_too_few(self):
        self.refused(orders(1024, "A1F"))
        self.refused(orders(1023, "A1F A2F"))
        self.refused(orders(0, "A1F " * 1025))
        self.refused(orders(1, "AF " * 1024))
        self.refused(orders(0, "AF " * 5461))

    def test_orders_over_earlier_words(self):
        machine, given = done(KEPT, orders(1, "A1F"))
        self.assertEqual(given, [0, 1])
        self.assertEqual(state(machine), changed(short_words=stored(0, [1, A + 2, 3])))

    def test_nothing_else_changes(self):
        machine = Machine()
        machine.bits_between = [1, 0] * 256
        machine.next_place = 12
        machine.stopped = True
        before = state(machine)
        self.assertEqual(answers_of(machine, orders(2, "A1F VD")), [1, 2])
        self.assertEqual(state(machine), {**before, "short_words": stored(2, [A + 2, 31 * 4096 + 1])})


if __name__ == "__main__":
    unittest.main()
