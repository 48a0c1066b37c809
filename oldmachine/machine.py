"""The machine: what it keeps, what may be put into it, and what is told and taken out of it."""

from oldmachine.bits import ACCUMULATOR_WIDTH, LONG_WIDTH, bits_of
from oldmachine.letters import NoProgram, program_words

REFUSED = -1
PLACES = 1024
PAIRS = 512
WORDS_BELOW = 131072
LONGEST_TEXT = 16384
LONGEST_PIECE = 4096
TAPE_SIGNS_BELOW = 32
LONGEST_TAPE = 65536
MOST_TAKEN = 65536
LOWER_WIDTH = 64


class Machine:

    def __init__(self):
        self.begin()

    def begin(self):
        self.short_words = [0] * PLACES
        # A pair's bit between belongs to neither short word, so it is kept apart from both.
        self.bits_between = [0] * PAIRS
        self.accumulator = 0
        self.multiplier = 0
        self.next_place = 0
        self.tape = []
        self.printed = []
        # The sign printed last is still asked for when the printed ones have been taken.
        self.last_printed = 0
        self.stopped = False
        return 0

    def put_words(self, at, n, words):
        if not 0 <= n <= PLACES or not have_places(at, n):
            return REFUSED
        if not all_below(words, WORDS_BELOW):
            return REFUSED
        self.put_short_words(at, words)
        return 0

    def put_orders(self, at, n, text):
        if not 0 <= n <= LONGEST_TEXT:
            return REFUSED
        try:
            orders = program_words(text)
        except NoProgram:
            return REFUSED
        if not have_places(at, len(orders)):
            return REFUSED
        self.put_short_words(at, orders)
        return len(orders)

    def put_short_words(self, at, words):
        for offset, word in enumerate(words):
            self.short_words[at + offset] = word

    def lay_tape(self, n, signs):
        if not 0 <= n <= LONGEST_PIECE or not all_below(signs, TAPE_SIGNS_BELOW):
            return REFUSED
        if len(self.tape) + n > LONGEST_TAPE:
            return REFUSED
        self.tape.extend(signs)
        return len(self.tape)

    def start_at(self, place):
        if not 0 <= place < PLACES:
            return REFUSED
        self.next_place = place
        self.stopped = False
        return 0

    def long_word(self, place):
        even = place - place % 2
        return self.short_words[even] + (self.bits_between[place // 2] << 17) + (self.short_words[even + 1] << 18)

    def put_long_word(self, place, word):
        even = place - place % 2
        self.short_words[even] = word % WORDS_BELOW
        self.bits_between[place // 2] = word >> 17 & 1
        self.short_words[even + 1] = word >> 18

    def take(self, most):
        if not 1 <= most <= MOST_TAKEN:
            return [0]
        taken = self.printed[:most]
        self.printed = self.printed[most:]
        return [len(taken)] + taken

    def look(self, place, wide):
        if not 0 <= place < PLACES:
            return [REFUSED]
        if wide == 0:
            return [0, self.short_words[place]]
        return [0, self.long_word(place)]

    def tell_registers(self):
        accumulator = bits_of(self.accumulator, ACCUMULATOR_WIDTH)
        return [
            1 if self.stopped else 0,
            bits_of(accumulator, LOWER_WIDTH),
            accumulator >> LOWER_WIDTH,
            bits_of(self.multiplier, LONG_WIDTH),
            self.next_place,
            len(self.tape),
            len(self.printed),
        ]


def have_places(at, many):
    # Behind the last place there is room for no words at all, and that is no refusal.
    return 0 <= at <= PLACES and at + many <= PLACES


def all_below(numbers, limit):
    return max(numbers, default=0) < limit
