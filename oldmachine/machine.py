"""The machine: what it keeps, and what may be put into it."""

from oldmachine.letters import NoProgram, program_words

REFUSED = -1
PLACES = 1024
PAIRS = 512
WORDS_BELOW = 131072
LONGEST_TEXT = 16384
LONGEST_PIECE = 4096
TAPE_SIGNS_BELOW = 32
LONGEST_TAPE = 65536


class Machine:

    def __init__(self):
        self.begin()

    def begin(self):
        self.short_words = [0] * PLACES
        # A pair's bit between belongs to neither short word, so it is kept apart from both.
        self.bits_between = [0] * PAIRS
        self.accumulator = 0
        self.multiplier = 0
        self.next_place = 0
        self.tape = []
        self.printed = []
        # The sign printed last is still asked for when the printed ones have been taken.
        self.last_printed = 0
        self.stopped = False
        return 0

    def put_words(self, at, n, words):
        if not 0 <= n <= PLACES or not have_places(at, n):
            return REFUSED
        if not all_below(words, WORDS_BELOW):
            return REFUSED
        self.put_short_words(at, words)
        return 0

    def put_orders(self, at, n, text):
        if not 0 <= n <= LONGEST_TEXT:
            return REFUSED
        try:
            orders = program_words(text)
        except NoProgram:
            return REFUSED
        if not have_places(at, len(orders)):
            return REFUSED
        self.put_short_words(at, orders)
        return len(orders)

    def put_short_words(self, at, words):
        for offset, word in enumerate(words):
            self.short_words[at + offset] = word

    def lay_tape(self, n, signs):
        if not 0 <= n <= LONGEST_PIECE or not all_below(signs, TAPE_SIGNS_BELOW):
            return REFUSED
        if len(self.tape) + n > LONGEST_TAPE:
            return REFUSED
        self.tape.extend(signs)
        return len(self.tape)

    def start_at(self, place):
        if not 0 <= place < PLACES:
            return REFUSED
        self.next_place = place
        self.stopped = False
        return 0


def have_places(at, many):
    # Behind the last place there is room for no words at all, and that is no refusal.
    return 0 <= at <= PLACES and at + many <= PLACES


def all_below(numbers, limit):
    return max(numbers, default=0) < limit
