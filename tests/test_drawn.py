"""Promises 6 to 9 over many drawn machines: the program beside the model over texts of bits."""

import unittest

from oldmachine.store import answers
from tests.lines import line, look, registers, run, split, start, take, tape, words
from tests.model import SIGNS, Model, text

ORDERS = "ASHVNCTURLEGIOFYXZ"
EDGES = [0, 1, 65535, 65536, 65537, 131071, 131070, 0x15555, 0x0AAAA]


class Draw:
    """A row of numbers that is the same every time and looks drawn."""

    def __init__(self, seed):
        self.now = seed * 7919 + 1

    def below(self, limit):
        self.now = self.now * 6364136223846793005 + 1442695040888963407 & 2 ** 64 - 1
        return (self.now >> 33) % limit

    def one_of(self, choices):
        return choices[self.below(len(choices))]


def drawn_order(draw, letters):
    # Places near one another, so that what one order puts, another finds.
    place = draw.one_of((draw.below(24), draw.below(24), draw.below(24), 1023 - draw.below(4), draw.below(2048)))
    return SIGNS.index(draw.one_of(letters)) * 4096 + place * 2 + draw.below(2)


def drawn_word(draw, letters):
    kind = draw.below(8)
    if kind < 6:
        return drawn_order(draw, letters)
    return draw.one_of(EDGES) if kind == 6 else draw.below(131072)


def put_words(model, at, row):
    for k, word in enumerate(row):
        model.put(at + k, text(word, 17))
    return words(at, row), [0]


def lay_tape(model, row):
    model.signs += row
    return tape(row), [len(model.signs)]


def start_at(model, place):
    model.place = place
    model.halted = False
    return start(place), [0]


def told_of_place(model, place, wide):
    return look(place, wide), [0, int(model.word(place, wide != 0), 2)]


def drawn_line(seed):
    """The calls of a line, and the model's answers to them."""
    draw = Draw(seed)
    model = Model()
    # Jumps, stops and printing grow rarer where a machine is to go on for long.
    letters = draw.one_of((ORDERS, "ASHVNCTURLIOFYX", "ASHVNCTUTURLYX", "ASHVNCTUTURLYXEG", "AAVNCRLTUEGOF", SIGNS))
    pairs = [put_words(model, 0, [drawn_word(draw, letters) for k in range(28)]),
             put_words(model, 1018, [drawn_word(draw, letters) for k in range(6)]),
             lay_tape(model, [draw.below(32) for k in range(draw.below(12))])]
    for turn in range(20):
        steps = draw.one_of((0, 1, 1, 1, 2, 5, 30, 300))
        pairs.append((run(steps), model.run(steps)))
        pairs.append((registers(), model.registers()))
        place = draw.one_of((draw.below(24), draw.below(1024)))
        pairs.append(told_of_place(model, place, draw.one_of((0, 1, -1, 7))))
        # A machine that stands still mostly goes on elsewhere.
        if pairs[-3][1][0] != 0 and draw.below(4) > 0:
            pairs.append(start_at(model, draw.below(24)))
        kind = draw.below(5)
        if kind == 1:
            pairs.append(put_words(model, draw.below(20), [drawn_word(draw, letters) for k in range(draw.below(5))]))
        elif kind == 2:
            pairs.append(lay_tape(model, [draw.below(32) for k in range(draw.below(4))]))
    pairs += [told_of_place(model, place, wide) for place in range(28) for wide in (0, 1)]
    most = draw.one_of((1, 3, 65536))
    pairs += [(take(most), model.take(most)), (take(65536), model.take(65536)), (registers(), model.registers())]
    return [call for call, due in pairs], [due for call, due in pairs]


class DrawnTest(unittest.TestCase):

    def test_beside_the_model(self):
        for seed in range(1500):
            calls, due = drawn_line(seed)
            given = split(answers(line(*calls)))
            self.assertEqual(given, [[0]] + due, seed)


if __name__ == "__main__":
    unittest.main()
