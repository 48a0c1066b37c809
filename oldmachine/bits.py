"""Numbers with sign in two's complement, and the bits that write them."""

SHORT_WIDTH = 17
LONG_WIDTH = 35
ACCUMULATOR_WIDTH = 71


def bits_of(number, width):
    return number & (1 << width) - 1


def with_sign(number, width):
    # The highest bit counts below 0, and what goes beyond it is lost.
    sign = 1 << width - 1
    return (bits_of(number, width) ^ sign) - sign
