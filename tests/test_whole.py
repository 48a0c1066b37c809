"""The whole: promises 1 to 5 as look, registers and take tell them; begin, refusals, the same again."""

import unittest

from oldmachine.store import answers
from tests.lines import (HIGHEST, LOWEST, begin, line, look, orders, registers, run, split, start, take, tape, told,
                         words)
from tests.setting import set_up

# Leaves a machine with every part of its state changed.
USED = set_up(
    accumulator=-2 ** 69 + 5, multiplier=-7, long_words={40: 2 ** 35 - 1, 1022: 2 ** 17}, on_tape=[1, 2, 3])
USED += [words(50, [9, 30 << 12]), orders(60, "O50F I70F O51F ZF"), start(60), run(9)]
TOLD = [registers(), look(40, 1), look(50), look(51), look(60), look(61), look(62), look(63), look(70), look(1022, 1)]
REFUSALS = [
    words(1024, [1]), words(0, [], -1), words(0, [], 1025), words(-1, [1]), words(60, [131072]), words(50, [1, 131072]),
    orders(0, "", -1), orders(0, "", 16385), orders(-1, "AF"), orders(1025, ""), orders(60, "AF A"), orders(1024, "AF"),
    orders(1023, "AF AF"), tape([], -1), tape([], 4097), tape([32]), tape([1, 255]), start(-1), start(1024), run(-1),
    run(1000001), look(-1, 0), look(1024, 1), start(LOWEST), run(HIGHEST), look(HIGHEST, LOWEST)]


class PromisesToldTest(unittest.TestCase):

    def test_words(self):
        given = told(words(5, [7, 131071, 0, 65536]), look(4), look(5), look(6), look(7), look(8), look(9), look(6, 1))
        self.assertEqual(given, [[0], [0, 0], [0, 7], [0, 131071], [0, 0], [0, 65536], [0, 0], [0, 131071]])

    def test_orders(self):
        given = told(orders(1021, " A5D\nZF  G2047F "), look(1020), look(1021), look(1022), look(1023), registers())
        self.assertEqual(given, [[3], [0, 0], [0, 114699], [0, 53248], [0, 114686], [0] * 7])

    def test_tape(self):
        given = told(tape([9, 8]), tape([7]), tape([32]), registers(), orders(0, "I50F I51F I52F"), run(4), look(50),
                     look(51), look(52), tape([6]))
        self.assertEqual(given, [[2], [3], [-1], [0, 0, 0, 0, 0, 3, 0], [3], [3, 3], [0, 9], [0, 8], [0, 7], [1]])

    def test_start(self):
        given = told(orders(9, "XF ZF"), start(9), registers(), run(9), registers(), start(10), registers(), run(9))
        self.assertEqual(given[1:], [[0], [0, 0, 0, 0, 9, 0, 0], [1, 2], [1, 0, 0, 0, 11, 0, 0], [0],
                                     [0, 0, 0, 0, 10, 0, 0], [1, 1]])

    def test_start_leaves_the_rest(self):
        given = told(*USED, registers(), start(3), registers())
        before, after = given[-3], given[-1]
        self.assertEqual(before[0], 1)
        self.assertEqual(after, [0] + before[1:4] + [3] + before[5:])


class BeginTest(unittest.TestCase):

    def test_all_is_used(self):
        given = told(*USED, registers())
        self.assertEqual(given[-2:], [[1, 4], [1, 5, 96, 2 ** 35 - 7, 64, 2, 2]])

    def test_all_is_new(self):
        given = told(*USED, begin(), registers(), take(9), run(0), run(1), words(50, [5]), orders(3, "F50F"), start(3),
                     run(1), look(50))
        self.assertEqual(given[len(USED):], [[0], [0] * 7, [0], [0, 0], [3, 0], [0], [1], [0], [0, 1], [0, 0]])

    def test_all_words_are_0(self):
        # The order at 1 puts ones over a pair, and is made to say the next pair each time round.
        filling = [words(30, [1, 0, 4]), orders(0, "S30D T40D A1F A32F T1F E0F"), run(6 * 492)]
        for first in range(0, 1024, 256):
            looks = [look(place, 1) for place in range(first, first + 256)]
            full = told(*filling, *looks)[3:]
            self.assertEqual(full[40 if first == 0 else 0:], [[0, 2 ** 35 - 1]] * (216 if first == 0 else 256))
            self.assertEqual(told(*filling, begin(), *looks)[4:], [[0, 0]] * 256)

    def test_as_if_nothing_had_been_before(self):
        calls = [words(50, [131071, 3]), tape([4]), orders(0, "H50F V51D I60F O50F F61D ZF"), run(9), registers(),
                 look(60), look(61, 1), take(9)]
        self.assertEqual(told(*USED, begin(), *calls)[len(USED) + 1:], told(*calls))

    def test_begin_and_begin_again(self):
        self.assertEqual(told(begin(), start(5), begin(), registers()), [[0], [0], [0], [0] * 7])


class RefusalsTest(unittest.TestCase):

    def test_nothing_changes(self):
        # What was printed last is told by an F alone.
        behind = TOLD + [take(9), orders(60, "F50F"), start(60), run(1), look(50)]
        before = told(*USED, *behind)
        self.assertEqual(before[-1], [0, 30 << 12])
        for refusal in REFUSALS:
            given = told(*USED, refusal, *behind)
            self.assertEqual(given[len(USED)], [-1], refusal[:4])
            self.assertEqual(given[:len(USED)] + given[len(USED) + 1:], before, refusal[:4])

    def test_all_of_them_one_after_another(self):
        before = told(*USED, *TOLD)
        given = told(*USED, *REFUSALS, *TOLD)
        self.assertEqual(given[len(USED):-len(TOLD)], [[-1]] * len(REFUSALS))
        self.assertEqual(given[-len(TOLD):], before[-len(TOLD):])

    def test_a_refusal_is_its_number_alone(self):
        for refusal in REFUSALS:
            self.assertEqual(answers(line(refusal)), [1, 0, 1, -1])


class AgainTest(unittest.TestCase):

    def test_the_same_list_gives_the_same(self):
        handed = line(*USED, *TOLD, take(1), *REFUSALS, take(9))
        kept = list(handed)
        first = answers(handed)
        self.assertEqual(handed, kept)
        self.assertEqual(answers(handed), first)
        self.assertEqual(handed, kept)
        answers(line(run(1), tape([5])))
        self.assertEqual(answers(handed), first)

    def test_given_lists_are_apart(self):
        handed = line(*USED, take(9))
        first = answers(handed)
        kept = list(first)
        second = answers(handed)
        second.clear()
        self.assertEqual(first, kept)

    def test_whole_numbers(self):
        for number in answers(line(*USED, *TOLD, take(9), *REFUSALS)):
            self.assertIs(type(number), int)

    def test_a_list_that_must_not_be_changed(self):

        class Watched(list):

            def changed(self, *given):
                raise AssertionError("the list that was handed in is changed")

            __setitem__ = __delitem__ = __iadd__ = __imul__ = changed
            append = clear = extend = insert = pop = remove = reverse = sort = changed

        handed = line(*USED, *TOLD, take(9), *REFUSALS)
        self.assertEqual(answers(Watched(handed)), answers(handed))

    def test_the_longest_line(self):
        calls = [orders(0, "XF E0F")] + [run(1), registers(), look(1, 1)] * 132 + [run(1), run(1)]
        given = split(answers(line(*calls)))
        self.assertEqual(len(given), 400)
        self.assertEqual(given[-1], [0, 1])


if __name__ == "__main__":
    unittest.main()
