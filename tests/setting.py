"""Machines brought into a wanted state by their own orders, and what an order then does to them."""

from collections import namedtuple

from tests.lines import look, orders, registers, run, start, tape, told, words

PROGRAM = 900
PIECES = 950
LENT = 960
ORDER = 800

Registers = namedtuple("Registers", "stopped accumulator multiplier next_place tape printed")


def signed(bits, width):
    return bits - 2 ** width if bits >= 2 ** (width - 1) else bits


def read(answer):
    """What registers answered, with the accumulator and the multiplier as numbers with sign."""
    stopped, lower, others, multiplier, next_place, on_tape, printed = answer
    assert stopped in (0, 1) and 0 <= lower < 2 ** 64 and 0 <= others < 128 and 0 <= multiplier < 2 ** 35, answer
    accumulator = signed(others * 2 ** 64 + lower, 71)
    return Registers(stopped, accumulator, signed(multiplier, 35), next_place, on_tape, printed)


def with_accumulator(number):
    """Calls that make the accumulator that number: nine bits at a time, from the lowest on, and 17 at the end."""
    bits = number % 2 ** 71
    pieces = [bits >> 9 * k & 511 for k in range(6)] + [bits >> 54]
    program = f"T{LENT}F " + " R128F ".join(f"A{PIECES + k}F" for k in range(7)) + " ZF"
    return [words(PIECES, pieces), orders(PROGRAM, program), start(PROGRAM), run(100)]


def with_long_word(place, number):
    return with_accumulator(number % 2 ** 35 << 36) + [orders(PROGRAM, f"T{place}D ZF"), start(PROGRAM), run(100)]


def with_multiplier(number):
    return with_long_word(LENT, number) + [orders(PROGRAM, f"H{LENT}D ZF"), start(PROGRAM), run(100)]


def set_up(accumulator=0, multiplier=0, short_words={}, long_words={}, on_tape=()):
    calls = with_multiplier(multiplier)
    for place, number in long_words.items():
        calls += with_long_word(place, number)
    for place, number in short_words.items():
        calls.append(words(place, [number % 2 ** 17]))
    return calls + with_accumulator(accumulator) + [tape(list(on_tape))]


def behind(order, looks=(), at=ORDER, steps=1, **values):
    """What registers, and look at these places, answer when the order in letters has been done at a machine so set."""
    calls = set_up(**values) + [orders(at, order), start(at), run(steps), registers()]
    answered = told(*calls, *[look(place, wide) for place, wide in looks])
    assert answered[len(calls) - 2] == [0, steps], answered[len(calls) - 2]
    for first, *_ in answered[len(calls):]:
        assert first == 0
    return [read(answered[len(calls) - 1])] + [second for first, second in answered[len(calls):]]
