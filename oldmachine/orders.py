"""The eighteen orders: what each of them does to the machine."""

from oldmachine.bits import ACCUMULATOR_WIDTH, LONG_WIDTH, SHORT_WIDTH, bits_of, with_sign


def place_of(order):
    return order >> 1 & 1023


def is_long(order):
    return order & 1 == 1


def number_at(machine, order):
    # A short word is reckoned with as a long one's upper end, so what follows needn't tell the two apart.
    place = place_of(order)
    if is_long(order):
        return with_sign(machine.long_word(place), LONG_WIDTH)
    return with_sign(machine.short_words[place], SHORT_WIDTH) << 18


def put_word(machine, order, word):
    if is_long(order):
        machine.put_long_word(place_of(order), word)
    else:
        machine.short_words[place_of(order)] = word


def put_upper_end(machine, order, long_word):
    put_word(machine, order, long_word if is_long(order) else long_word >> 18)


def put_accumulator(machine, number):
    machine.accumulator = with_sign(number, ACCUMULATOR_WIDTH)


def shift_places(order):
    # The lowest 1 by itself is a number with as many bits as there are 0 bits below it, and one.
    return (order & -order).bit_length()


def add(machine, order):
    put_accumulator(machine, machine.accumulator + (number_at(machine, order) << 36))


def subtract(machine, order):
    put_accumulator(machine, machine.accumulator - (number_at(machine, order) << 36))


def hold_multiplier(machine, order):
    machine.multiplier = number_at(machine, order)


def add_product(machine, order):
    put_accumulator(machine, machine.accumulator + machine.multiplier * number_at(machine, order) * 4)


def subtract_product(machine, order):
    put_accumulator(machine, machine.accumulator - machine.multiplier * number_at(machine, order) * 4)


def add_common_bits(machine, order):
    common = machine.multiplier & number_at(machine, order)
    put_accumulator(machine, machine.accumulator + (common << 36))


def store_accumulator(machine, order):
    put_upper_end(machine, order, bits_of(machine.accumulator, ACCUMULATOR_WIDTH) >> 36)


def store_and_clear(machine, order):
    store_accumulator(machine, order)
    machine.accumulator = 0


def shift_right(machine, order):
    machine.accumulator = machine.accumulator >> shift_places(order)


def shift_left(machine, order):
    put_accumulator(machine, machine.accumulator << shift_places(order))


def jump_unless_below(machine, order):
    if machine.accumulator >= 0:
        machine.next_place = place_of(order)


def jump_if_below(machine, order):
    if machine.accumulator < 0:
        machine.next_place = place_of(order)


def read_sign(machine, order):
    put_word(machine, order, machine.tape.pop(0))


def print_sign(machine, order):
    machine.last_printed = bits_of(number_at(machine, order), LONG_WIDTH) >> 30
    machine.printed.append(machine.last_printed)


def store_last_printed(machine, order):
    put_upper_end(machine, order, machine.last_printed << 30)


def round_off(machine, order):
    put_accumulator(machine, machine.accumulator + (1 << 35))


def do_nothing(machine, order):
    pass


def stop(machine, order):
    machine.stopped = True


DEEDS = {
    "A": add,
    "S": subtract,
    "H": hold_multiplier,
    "V": add_product,
    "N": subtract_product,
    "C": add_common_bits,
    "T": store_and_clear,
    "U": store_accumulator,
    "R": shift_right,
    "L": shift_left,
    "E": jump_unless_below,
    "G": jump_if_below,
    "I": read_sign,
    "O": print_sign,
    "F": store_last_printed,
    "Y": round_off,
    "X": do_nothing,
    "Z": stop,
}
