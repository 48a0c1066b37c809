"""The interface: oldmachine.store.answers."""

import unittest

import oldmachine.store
from oldmachine.store import UnknownCall, answers
from tests.lines import begin, line, orders, start, tape, words

LINE = line(
    words(0, [1, 2, 131071]), words(1024, [0]), orders(3, "A5D\nZF"), orders(3, "A5"), tape([1, 31, 5]), tape([32]),
    tape([2]), start(1023), start(1024), begin(), tape([9]))
ANSWERS = [1, 0, 1, 0, 1, -1, 1, 2, 1, -1, 1, 3, 1, -1, 1, 4, 1, 0, 1, -1, 1, 0, 1, 1]


class InterfaceTest(unittest.TestCase):

    def test_the_name(self):
        self.assertIs(oldmachine.store.answers, answers)

    def test_as_it_is_written(self):
        self.assertEqual(answers([0]), [1, 0])
        self.assertEqual(answers([0, 1, 5, 2, 2, 8, 9]), [1, 0, 1, 0])
        self.assertEqual(answers([0, 2, 5, 3, 3, 65, 49, 70]), [1, 0, 1, 1])
        self.assertEqual(answers([0, 3, 2, 2, 8, 9]), [1, 0, 1, 2])
        self.assertEqual(answers([0, 4, 5]), [1, 0, 1, 0])
        self.assertEqual(answers([0, 5, 0]), [1, 0, 2, 0, 0])
        self.assertEqual(answers([0, 5, -1]), [1, 0, 1, -1])
        self.assertEqual(answers([0, 6, 5]), [1, 0, 1, 0])
        self.assertEqual(answers([0, 7, 5, 0]), [1, 0, 2, 0, 0])
        self.assertEqual(answers([0, 7, -1, 0]), [1, 0, 1, -1])
        self.assertEqual(answers([0, 8]), [1, 0, 7, 0, 0, 0, 0, 0, 0, 0])
        # An O prints its own sign, 9, and a P is no order.
        self.assertEqual(answers([0, 1, 0, 1, 1, 36864, 5, 2, 6, 3]), [1, 0, 1, 0, 2, 3, 1, 2, 1, 9])

    def test_an_answer_for_each_call(self):
        self.assertEqual(answers(LINE), ANSWERS)

    def test_empty_rows(self):
        self.assertEqual(answers([0, 1, 0, -7, 0, 2, 0, 16385, 0, 3, 4097, 0, 3, 0, 0]),
                         [1, 0, 1, -1, 1, -1, 1, -1, 1, 0])

    def test_rows_may_look_like_calls(self):
        self.assertEqual(answers([0, 1, 0, 4, 4, 3, 1, 1, 5, 3, 1, 1, 0]), [1, 0, 1, 0, 1, 1])

    def test_whole_numbers_in_a_list(self):
        given = answers(LINE)
        self.assertIs(type(given), list)
        for number in given:
            self.assertIs(type(number), int)

    def test_what_is_handed_in_stays(self):
        handed = list(LINE)
        answers(handed)
        self.assertEqual(handed, LINE)

    def test_what_is_handed_in_is_not_given_back(self):
        handed = [0]
        given = answers(handed)
        given.append(5)
        self.assertEqual(handed, [0])

    def test_nothing_is_kept(self):
        first = answers(LINE)
        answers(line(tape([1] * 4096), start(7)))
        self.assertEqual(answers(LINE), first)
        self.assertEqual(answers(line(tape([1]))), [1, 0, 1, 1])
        self.assertEqual(answers(line(tape([1]))), [1, 0, 1, 1])

    def test_longest_lists(self):
        self.assertEqual(answers(line(*[start(k) for k in range(399)])), [1, 0] * 400)
        long_line = line(*([tape([1] * 4096)] * 7))
        self.assertEqual(answers(long_line), [1, 0] + [n for k in range(1, 8) for n in (1, 4096 * k)])
        self.assertEqual(answers(line(orders(0, " " * 16384), orders(0, "A1F " * 1024), orders(0, "A1F\n" * 1024))),
                         [1, 0, 1, 0, 1, 1024, 1, 1024])

    def test_no_such_call(self):
        for call in (-1, 9, 1000):
            with self.assertRaises(UnknownCall):
                answers([0, call])


if __name__ == "__main__":
    unittest.main()
