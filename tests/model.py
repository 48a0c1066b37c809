"""The machine once more, written over texts of bits, for the tests to hold beside the program."""

SIGNS = "PQWERTYUIOJ#SZK*.F@D!HNM&LXGABCV"


def text(number, width):
    return format(number % 2 ** width, f"0{width}b")


def value(bits):
    return int(bits, 2) - (2 ** len(bits) if bits[0] == "1" else 0)


class Model:

    def __init__(self):
        # Of each pair: the odd place's 17 bits, the bit between, the even place's 17.
        self.pairs = ["0" * 35] * 512
        self.accumulator = "0" * 71
        self.multiplier = "0" * 35
        self.place = 0
        self.signs = []
        self.paper = ""
        self.gone = 0
        self.halted = False

    def word(self, place, is_long):
        pair = self.pairs[place // 2]
        if is_long:
            return pair
        return pair[:17] if place % 2 else pair[18:]

    def put(self, place, bits):
        pair = self.pairs[place // 2]
        if len(bits) == 17:
            bits = bits + pair[17:] if place % 2 else pair[:18] + bits
        self.pairs[place // 2] = bits

    def waiting(self):
        return len(self.paper) // 5 - self.gone

    def take(self, most):
        many = min(most, self.waiting()) if 1 <= most <= 65536 else 0
        taken = [int(self.paper[5 * k:5 * k + 5], 2) for k in range(self.gone, self.gone + many)]
        self.gone += many
        return [many] + taken

    def registers(self):
        return [int(self.halted), int(self.accumulator[7:], 2), int(self.accumulator[:7], 2), int(self.multiplier, 2),
                self.place, len(self.signs), self.waiting()]

    def run(self, steps):
        if self.halted and steps:
            return [1, 0]
        for count in range(steps):
            if self.waiting() > 65536:
                return [4, count]
            order = self.word(self.place, False)
            sign = SIGNS[int(order[:5], 2)]
            if sign not in "ASHVNCTURLEGIOFYXZ":
                return [3, count]
            if sign == "I" and not self.signs:
                return [2, count]
            self.do(sign, int(order[6:16], 2), order[16] == "1", len(order) - order.rindex("1"))
            if self.halted:
                return [1, count + 1]
        return [0, steps]

    def do(self, sign, place, is_long, shift):
        x = self.word(place, is_long)
        wide = x.ljust(35, "0")
        total = value(self.accumulator)
        self.place = (self.place + 1) % 1024
        if sign in "EG":
            if (self.accumulator[0] == "1") == (sign == "G"):
                self.place = place
        elif sign == "R":
            self.accumulator = (self.accumulator[0] * shift + self.accumulator)[:71]
        elif sign == "L":
            self.accumulator = (self.accumulator + "0" * shift)[-71:]
        elif sign == "H":
            self.multiplier = wide
        elif sign in "TU":
            self.put(place, self.accumulator[:len(x)])
            if sign == "T":
                self.accumulator = "0" * 71
        elif sign == "I":
            self.put(place, text(self.signs.pop(0), len(x)))
        elif sign == "O":
            self.paper += x[:5]
        elif sign == "F":
            self.put(place, self.paper[-5:].ljust(len(x), "0"))
        elif sign == "Z":
            self.halted = True
        elif sign != "X":
            self.accumulator = text(total + self.change(sign, x, wide), 71)

    def change(self, sign, x, wide):
        if sign == "Y":
            return 2 ** 35
        if sign in "VN":
            return value(self.multiplier) * value(wide) * (4 if sign == "V" else -4)
        if sign == "C":
            x = "".join("1" if one == other == "1" else "0" for one, other in zip(self.multiplier, wide))
        added = value(x) * 2 ** (71 - len(x))
        return -added if sign == "S" else added
