"""Promise 6: run, its answers and how many orders were done."""

import unittest

from oldmachine.machine import Machine
from oldmachine.store import answers_of
from tests.lines import (HIGHEST, LOWEST, SIGNS, begin, look, orders, registers, run, start, state, take, tape, told,
                         words)
from tests.setting import read

ORDERS = "ASHVNCTURLEGIOFYXZ"
PRINT_ALL = words(0, [9 * 4096] * 1024)


class StepsTest(unittest.TestCase):

    def test_as_many_as_steps_says(self):
        given = told(orders(0, "XF " * 20), run(0), registers(), run(1), registers(), run(7), registers())
        self.assertEqual(given[1:], [[0, 0], [0, 0, 0, 0, 0, 0, 0], [0, 1], [0, 0, 0, 0, 1, 0, 0],
                                     [0, 7], [0, 0, 0, 0, 8, 0, 0]])

    def test_each_order_counts(self):
        for letter in ORDERS.replace("Z", ""):
            given = told(tape([1]), orders(0, f"{letter}50F"), run(1), run(1))
            self.assertEqual(given[2], [0, 1], letter)

    def test_one_after_another(self):
        given = told(words(50, [3, 4]), orders(0, "A50F A51F U52F A52F T53F ZF"), run(5), look(52), look(53))
        self.assertEqual(given[2:], [[0, 5], [0, 7], [0, 14]])

    def test_most_steps(self):
        given = told(orders(0, "XF XF E0F"), run(1000000), registers())
        self.assertEqual(given[1:], [[0, 1000000], [0, 0, 0, 0, 1, 0, 0]])

    def test_steps_outside(self):
        for steps in (-1, 1000001, LOWEST, HIGHEST, -1000000):
            given = told(orders(0, "XF E0F"), run(1), run(steps), registers(), run(1), registers())
            self.assertEqual(given[1:], [[0, 1], [-1], [0, 0, 0, 0, 1, 0, 0], [0, 1], [0, 0, 0, 0, 0, 0, 0]])

    def test_steps_outside_before_all_else(self):
        for steps in (-1, 1000001):
            self.assertEqual(told(run(steps)), [[-1]])
            self.assertEqual(told(orders(0, "I5F"), run(steps)), [[1], [-1]])
            self.assertEqual(told(orders(0, "ZF"), run(1), run(steps), registers())[1:],
                             [[1, 1], [-1], [1, 0, 0, 0, 1, 0, 0]])
            self.assertEqual(told(PRINT_ALL, run(65537), run(steps))[1:], [[0, 65537], [-1]])


class StoppedTest(unittest.TestCase):

    def test_z_counts(self):
        for steps in (3, 4, 1000000):
            given = told(orders(0, "XF XF ZF XF"), run(steps), registers())
            self.assertEqual(given[1:], [[1, 3], [1, 0, 0, 0, 3, 0, 0]], steps)
        self.assertEqual(told(orders(0, "XF XF ZF XF"), run(2), registers())[1:], [[0, 2], [0, 0, 0, 0, 2, 0, 0]])
        self.assertEqual(told(orders(0, "ZF"), run(1)), [[1], [1, 1]])

    def test_z_in_any_form(self):
        for order in ("ZF", "ZD", "Z50F", "Z51D", "Z1024F", "Z2047D"):
            given = told(words(50, [7, 8]), orders(0, "H50F A50F " + order), run(9), registers(), look(50, 1))
            self.assertEqual(given[2], [1, 3])
            self.assertEqual(read(given[3]), (1, 7 * 2 ** 54, 7 * 2 ** 18, 3, 0, 0))
            self.assertEqual(given[4], [0, 7 + 8 * 2 ** 18])

    def test_stopped_before(self):
        given = told(orders(0, "ZF XF XF"), run(9), run(0), run(1), run(2), run(1000000), registers())
        self.assertEqual(given[1:], [[1, 1], [0, 0], [1, 0], [1, 0], [1, 0], [1, 0, 0, 0, 1, 0, 0]])

    def test_going_on_behind_start(self):
        given = told(orders(0, "ZF XF ZF"), run(9), start(1), run(9), registers(), start(1024), run(1), start(0),
                     run(1))
        self.assertEqual(given[1:], [[1, 1], [0], [1, 2], [1, 0, 0, 0, 3, 0, 0], [-1], [1, 0], [0], [1, 1]])

    def test_no_other_call_than_start_and_begin_goes_on(self):
        given = told(orders(0, "ZF XF XF"), run(9), words(50, [1]), orders(50, "XF"), tape([1]), take(1), look(1),
                     registers(), run(1), begin(), orders(0, "XF"), run(1))
        self.assertEqual(given[-4:], [[1, 0], [0], [1], [0, 1]])

    def test_stopped_comes_before_what_hinders(self):
        self.assertEqual(told(orders(0, "ZF I5F"), run(1), run(1))[1:], [[1, 1], [1, 0]])
        self.assertEqual(told(orders(0, "ZF PF"), run(1), run(1))[1:], [[1, 1], [1, 0]])

    def test_stopped_while_as_many_signs_wait_as_may(self):
        given = told(PRINT_ALL, run(65536), orders(5, "ZF"), start(5), run(9), registers(), run(9), run(0))
        self.assertEqual(given[4:], [[1, 1], [1, 0, 0, 0, 6, 0, 65536], [1, 0], [0, 0]])

    def test_stopped_while_more_wait(self):
        # No order is done while so many wait, so calls alone don't bring a machine there.
        machine = Machine()
        machine.stopped = True
        machine.printed = [3] * 65537
        before = state(machine)
        for steps, due in ((0, [2, 0, 0]), (1, [2, 1, 0]), (1000000, [2, 1, 0]), (-1, [1, -1]), (1000001, [1, -1])):
            self.assertEqual(answers_of(machine, run(steps)), due)
            self.assertEqual(state(machine), before)


class NoSignTest(unittest.TestCase):

    def test_nothing_changes_and_going_on(self):
        given = told(words(50, [7]), orders(0, "A50F I50F T51F ZF"), run(9), registers(), look(50), run(9), run(1),
                     run(0), registers(), tape([31, 30]), run(9), look(50), look(51), registers())
        waiting = [0, 7 << 54, 0, 0, 1, 0, 0]
        self.assertEqual(given[2:], [[2, 1], waiting, [0, 7], [2, 0], [2, 0], [0, 0], waiting, [2], [1, 3], [0, 31],
                                     [0, 7], [1, 0, 0, 0, 4, 1, 0]])

    def test_the_last_sign_and_none(self):
        given = told(tape([4, 5, 6]), orders(0, "I50F E0F"), run(5), run(1), run(1), registers())
        self.assertEqual(given[2:], [[0, 5], [0, 1], [2, 0], [0, 0, 0, 0, 0, 0, 0]])
        self.assertEqual(told(tape([4, 5, 6]), orders(0, "I50F E0F"), run(7))[2:], [[2, 6]])

    def test_not_where_steps_end_before(self):
        self.assertEqual(told(orders(0, "XF XF I50F"), run(2))[1:], [[0, 2]])

    def test_going_on_elsewhere(self):
        given = told(orders(0, "I50F XF ZF"), run(1), start(1), run(9))
        self.assertEqual(given[1:], [[2, 0], [0], [1, 2]])


class NoOrderTest(unittest.TestCase):

    def test_every_sign_that_is_none(self):
        none = [sign for sign in SIGNS if sign not in ORDERS]
        self.assertEqual(len(none), 14)
        for sign in none:
            for written in ("F", "D", "5F", "50D", "1024F", "2047D"):
                given = told(words(50, [7, 8]), tape([9]), orders(0, "H50F A50F XF " + sign + written), run(9),
                             registers(), look(50, 1), look(3), run(1), run(0), registers(), orders(3, "ZF"), run(1))
                due = [0, 7 << 54, 0, 7 << 18, 3, 1, 0]
                word = SIGNS.index(sign) * 4096 + 2 * int("0" + written[:-1]) + (written[-1] == "D")
                self.assertEqual(given[3:], [[3, 3], due, [0, 7 + 8 * 2 ** 18], [0, word], [3, 0], [0, 0], due, [1],
                                             [1, 1]], (sign, written))

    def test_every_sign_that_is_one(self):
        self.assertEqual(len(ORDERS), 18)
        for sign in ORDERS:
            for written in ("F", "D", "5F", "50D", "1024F", "2047D"):
                given = told(tape([9]), orders(100, sign + written), start(100), run(1))
                self.assertEqual(given[3], [1 if sign == "Z" else 0, 1], sign)

    def test_a_new_machine_has_none(self):
        self.assertEqual(told(run(5), registers(), run(0)), [[3, 0], [0] * 7, [0, 0]])

    def test_not_where_steps_end_before(self):
        self.assertEqual(told(orders(0, "XF XF PF"), run(2))[1:], [[0, 2]])

    def test_going_on_elsewhere(self):
        self.assertEqual(told(orders(0, "PF XF ZF"), run(1), start(1), run(9))[1:], [[3, 0], [0], [1, 2]])

    def test_behind_1023(self):
        given = told(orders(1023, "XF"), start(1023), run(2), registers())
        self.assertEqual(given[2:], [[3, 1], [0, 0, 0, 0, 0, 0, 0]])


class TooMuchPrintedTest(unittest.TestCase):

    def test_the_limit(self):
        given = told(PRINT_ALL, run(65536), registers(), run(1), registers(), run(1), run(1000000), registers(), run(0))
        self.assertEqual(given[1:], [[0, 65536], [0, 0, 0, 0, 0, 0, 65536], [0, 1], [0, 0, 0, 0, 1, 0, 65537], [4, 0],
                                     [4, 0], [0, 0, 0, 0, 1, 0, 65537], [0, 0]])

    def test_how_many_were_done(self):
        for steps in (65538, 70000, 1000000):
            self.assertEqual(told(PRINT_ALL, run(steps))[1:], [[4, 65537]])
        self.assertEqual(told(PRINT_ALL, run(65537))[1:], [[0, 65537]])
        self.assertEqual(told(orders(0, "XF O50F E1F"), run(1000000))[1:], [[4, 2 + 2 * 65536]])

    def test_before_any_order(self):
        full = [PRINT_ALL, run(65537)]
        for sign in ORDERS:
            given = told(*full, tape([8]), words(50, [7, 8]), orders(5, sign + "50F"), start(5), registers(), run(1),
                         registers(), look(50, 1))
            self.assertEqual(given[7], [4, 0], sign)
            self.assertEqual(given[8], given[6])
            self.assertEqual(given[8], [0, 0, 0, 0, 5, 1, 65537])
            self.assertEqual(given[9], [0, 7 + 8 * 2 ** 18])

    def test_any_order_at_just_as_many(self):
        for sign in ORDERS:
            given = told(PRINT_ALL, run(65536), tape([8]), orders(5, sign + "50F"), start(5), run(1))
            self.assertEqual(given[-1], [1 if sign == "Z" else 0, 1], sign)

    def test_before_what_else_hinders(self):
        for order in ("I50F", "PF"):
            self.assertEqual(told(PRINT_ALL, run(65537), orders(5, order), start(5), run(1))[-1], [4, 0])
        self.assertEqual(told(PRINT_ALL, run(65536), orders(5, "I50F"), start(5), run(1))[-1], [2, 0])
        self.assertEqual(told(PRINT_ALL, run(65536), orders(5, "PF"), start(5), run(1))[-1], [3, 0])

    def test_going_on_behind_take(self):
        given = told(PRINT_ALL, run(65537), run(1), take(1), run(1), run(1), take(3), run(5), registers())
        self.assertEqual(given[2:], [[4, 0], [1, 9], [0, 1], [4, 0], [3, 9, 9, 9], [4, 3],
                                     [0, 0, 0, 0, 5, 0, 65537]])

    def test_going_on_behind_the_greatest_take(self):
        given = told(PRINT_ALL, run(1000000), take(65536), registers(), run(1000000))
        self.assertEqual(given[2:], [[65536] + [9] * 65536, [0, 0, 0, 0, 1, 0, 1], [4, 65536]])

    def test_start_does_not_help(self):
        self.assertEqual(told(PRINT_ALL, run(65537), start(7), run(1), registers())[3:],
                         [[4, 0], [0, 0, 0, 0, 7, 0, 65537]])

    def test_begin_does(self):
        self.assertEqual(told(PRINT_ALL, run(65538), begin(), run(1), PRINT_ALL, run(2))[3:], [[3, 0], [0], [0, 2]])


class NothingChangesTest(unittest.TestCase):

    def stays(self, order, steps, due, **values):
        machine = Machine()
        machine.short_words = [40961 * k % 131072 for k in range(1024)]
        machine.bits_between = [1, 0] * 256
        machine.accumulator = -2 ** 65
        machine.multiplier = -2 ** 20
        machine.last_printed = 17
        machine.next_place = 5
        for name, value in values.items():
            setattr(machine, name, value)
        answers_of(machine, orders(5, order))
        before = state(machine)
        self.assertEqual(answers_of(machine, run(steps)), due)
        self.assertEqual(state(machine), before)

    def test_the_whole_state(self):
        self.stays("A6F", -1, [1, -1])
        self.stays("A6F", 1000001, [1, -1])
        self.stays("A6F", 0, [2, 0, 0])
        self.stays("A6F", 3, [2, 1, 0], stopped=True)
        self.stays("I6D", 3, [2, 2, 0], printed=[1, 2])
        self.stays("B6D", 3, [2, 3, 0], printed=[1, 2], tape=[3])
        self.stays("T6D", 3, [2, 4, 0], printed=[1] * 65537, tape=[3])


if __name__ == "__main__":
    unittest.main()
