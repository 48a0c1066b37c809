"""Calls in the form that oldmachine.store.answers takes, for the tests."""

from oldmachine.machine import Machine
from oldmachine.store import answers, answers_of

SIGNS = ["P", "Q", "W", "E", "R", "T", "Y", "U", "I", "O", "J", "#", "S", "Z", "K", "*",
         ".", "F", "@", "D", "!", "H", "N", "M", "&", "L", "X", "G", "A", "B", "C", "V"]

LOWEST = -2147483648
HIGHEST = 2147483647


def begin():
    return [0]


def words(at, row, n=None):
    return [1, at, len(row) if n is None else n, len(row)] + row


def orders(at, text, n=None):
    row = [ord(sign) for sign in text] if isinstance(text, str) else list(text)
    return [2, at, len(row) if n is None else n, len(row)] + row


def tape(row, n=None):
    return [3, len(row) if n is None else n, len(row)] + row


def start(at):
    return [4, at]


def run(steps):
    return [5, steps]


def take(most):
    return [6, most]


def look(at, wide=0):
    return [7, at, wide]


def registers():
    return [8]


def line(*calls):
    return [number for call in (begin(),) + calls for number in call]


def split(given):
    """The answers of a line, each as a list of its own."""
    answered = []
    position = 0
    while position < len(given):
        answered.append(given[position + 1:position + 1 + given[position]])
        position += 1 + given[position]
    assert position == len(given), given
    return answered


def told(*calls):
    """The answers of a line of these calls, each as a list of its own, without begin's."""
    first, *others = split(answers(line(*calls)))
    assert first == [0] and len(others) == len(calls), (first, others)
    return others


def done(*calls):
    """The machine behind a line of these calls, and their answers without begin's."""
    machine = Machine()
    given = answers_of(machine, line(*calls))
    assert given[:2] == [1, 0], given
    assert len(given) == 2 + 2 * len(calls) and set(given[::2]) == {1}, given
    return machine, given[3::2]


def state(machine):
    return {name: list(value) if isinstance(value, list) else value
            for name, value in vars(machine).items()}


NEW = {
    "short_words": [0] * 1024,
    "bits_between": [0] * 512,
    "accumulator": 0,
    "multiplier": 0,
    "next_place": 0,
    "tape": [],
    "printed": [],
    "last_printed": 0,
    "stopped": False,
}


def changed(**values):
    return {**NEW, **values}


def stored(at, row):
    return [0] * at + list(row) + [0] * (1024 - at - len(row))
