"""Numbers as texts: those handed over, and those told. A number is a pair: numerator and denominator."""

BLANK = 32
MINUS = 45
POINT = 46
SLASH = 47
ZERO = 48
NINE = 57
HANDED_BYTES = 512
HANDED_BELOW = 1000000000000000000
TOLD_BITS = 4096


# A text that is no number handed over.
class NoNumber(ValueError):
    pass


# A number that is too great to be told.
class TooGreat(ValueError):
    pass


def is_digit(byte):
    return ZERO <= byte <= NINE


def digits_end(text, at):
    while at < len(text) and is_digit(text[at]):
        at += 1
    return at


def whole_of(digits):
    value = 0
    for byte in digits:
        value = 10 * value + byte - ZERO
    return value


def power_of_ten(exponent):
    power = 1
    for step in range(exponent):
        power = 10 * power
    return power


def pointed_of(before, behind):
    return (whole_of(before + behind), power_of_ten(len(behind)))


def greatest_divisor(a, b):
    while b > 0:
        rest = a % b
        a = b
        b = rest
    return a


def least_terms(number):
    divisor = greatest_divisor(abs(number[0]), number[1])
    return (number[0] // divisor, number[1] // divisor)


def unsigned_number(text):
    middle = digits_end(text, 0)
    if middle == 0:
        raise NoNumber()
    before = text[:middle]
    if middle == len(text):
        return (whole_of(before), 1)
    behind = text[middle + 1:]
    if len(behind) == 0 or digits_end(behind, 0) < len(behind):
        raise NoNumber()
    if text[middle] == POINT:
        return pointed_of(before, behind)
    if text[middle] != SLASH or whole_of(behind) == 0:
        raise NoNumber()
    return (whole_of(before), whole_of(behind))


# The number in least terms. So few bytes can't hold more digits than a number's text may have,
# and those needn't be counted.
def handed_over(text):
    if len(text) > HANDED_BYTES:
        raise NoNumber()
    below_zero = text[:1] == [MINUS]
    number = least_terms(unsigned_number(text[1:] if below_zero else text))
    if max(number) >= HANDED_BELOW:
        raise NoNumber()
    return (-number[0], number[1]) if below_zero else number


def exact_text(number):
    least = least_terms(number)
    # Asked before a digit is made: Python won't write out a number that is far greater still.
    if max(abs(least[0]).bit_length(), least[1].bit_length()) > TOLD_BITS:
        raise TooGreat()
    written = str(least[0])
    if least[1] != 1:
        written = written + "/" + str(least[1])
    return [ord(sign) for sign in written]
