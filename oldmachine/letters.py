"""Programs in letters, read into the short words that they write."""

# A sign's number is where it stands here.
SIGNS = "PQWERTYUIOJ#SZK*.F@D!HNM&LXGABCV"
SHORT_ENDING = "F"
LONG_ENDING = "D"
SPACE = 32
LINE_END = 10
DIGIT_ZERO = 48
DIGIT_NINE = 57
MOST_DIGITS = 4
NUMBERS_BELOW = 2048
SIGN_WEIGHT = 4096


class NoProgram(Exception):
    pass


def program_words(text):
    return [order_word(codes) for codes in split_orders(text)]


def split_orders(text):
    orders = []
    codes = []
    for code in text:
        if code == SPACE or code == LINE_END:
            if len(codes) > 0:
                orders.append(codes)
            codes = []
        else:
            codes.append(code)
    if len(codes) > 0:
        orders.append(codes)
    return orders


def order_word(codes):
    # F and D are signs too, so a sign and an ending are told apart by where they stand alone.
    if len(codes) < 2:
        raise NoProgram("an order lacks its sign or its ending")
    sign = sign_number(codes[0])
    number = written_number(codes[1:-1])
    return sign * SIGN_WEIGHT + 2 * number + long_bit(codes[-1])


def sign_number(code):
    for number, sign in enumerate(SIGNS):
        if ord(sign) == code:
            return number
    raise NoProgram("an order begins with no sign")


def written_number(digits):
    if len(digits) > MOST_DIGITS:
        raise NoProgram("an order has too many digits")
    number = 0
    for code in digits:
        if not DIGIT_ZERO <= code <= DIGIT_NINE:
            raise NoProgram("an order has no digit where one belongs")
        number = number * 10 + code - DIGIT_ZERO
    if number >= NUMBERS_BELOW:
        raise NoProgram("an order has too high a number")
    return number


def long_bit(code):
    if code == ord(SHORT_ENDING):
        return 0
    if code == ord(LONG_ENDING):
        return 1
    raise NoProgram("an order ends neither short nor long")
