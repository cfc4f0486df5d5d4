"""Doubles, told by their 64 bits and reckoned in whole numbers: each is, but for its sign, a whole times 2^power."""

from shownback.answers import TooGreat

SIGN = 0x8000000000000000
ENDLESS = 0x7FF0000000000000
LEAST_NORMAL_WHOLE = 0x10000000000000
LEAST_POWER = -1074


def exponent(bits):
    """The eleven bits behind the sign."""
    return (bits >> 52) % 2048


def is_finite(bits):
    """Whether the bits tell a finite number."""
    return exponent(bits) != 2047


def is_below_nought(bits):
    """Whether the bits tell a number below 0, which -0 is not."""
    return bits > SIGN


def whole_of(bits):
    """The whole of a finite number's whole times 2^power."""
    fraction = bits % LEAST_NORMAL_WHOLE
    return fraction if exponent(bits) == 0 else fraction + LEAST_NORMAL_WHOLE


def power_of(bits):
    """The power of a finite number's whole times 2^power."""
    return max(exponent(bits), 1) - 1 + LEAST_POWER


def power_of_ten(many):
    """10 to the power of many."""
    product = 1
    square = 10
    while many > 0:
        if many % 2 == 1:
            product *= square
        square *= square
        many //= 2
    return product


def power_for(over, under):
    """The power at which over / under, both above 0, has a whole of 53 bits, or fewer if that were too small."""
    power = over.bit_length() - under.bit_length() - 52
    if (over << max(-power, 0)) < (under * LEAST_NORMAL_WHOLE << max(power, 0)):
        power -= 1
    return max(power, LEAST_POWER)


def nearest_to_ratio(over, under):
    """The bits of the number nearest to over / under, both above 0; of two the one whose last bit is 0."""
    power = power_for(over, under)
    over = over << max(-power, 0)
    under = under << max(power, 0)
    whole = over // under
    rest = over - whole * under
    if 2 * rest > under or (2 * rest == under and whole % 2 == 1):
        whole += 1
    # A whole of 53 bits brings the exponent's last 1 along, also where it has just been rounded up to more.
    bits = ((power - LEAST_POWER) << 52) + whole
    if bits >= ENDLESS:
        raise TooGreat()
    return bits


def nearest_to_decimal(number, tens):
    """The bits of the number nearest to number times 10^tens; number is 0 or above."""
    places = len(str(number)) + tens
    # Far past either end there is no need to reckon, so that a great power of ten stays cheap.
    if number == 0 or places < -330:
        return 0
    if places > 310:
        raise TooGreat()
    return nearest_to_ratio(number * power_of_ten(max(tens, 0)), power_of_ten(max(-tens, 0)))
