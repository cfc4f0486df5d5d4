"""Numbers as their shortest decimals, and decimals read as the numbers nearest to them."""

from shownback.answers import NoSuchText
from shownback.doubles import LEAST_NORMAL_WHOLE, LEAST_POWER, SIGN
from shownback.doubles import is_below_nought, nearest_to_decimal, power_of, power_of_ten, whole_of
from shownback.reading import Reader, bytes_of

# As many digits always suffice to tell a number from its neighbours.
MOST_DIGITS = 17
# The least number above 0 times this power of ten has more than that many digits before the point.
TENS_FOR_THE_LEAST = 341
MINUS = (45,)
POINT = (46,)
SMALL_E = (101,)


def places_before_point(whole, power):
    """How many digits whole times 2^power has before the point; below 0, how many noughts follow the point, negated."""
    if power >= 0:
        return len(str(whole << power))
    return len(str((whole * power_of_ten(TENS_FOR_THE_LEAST)) >> -power)) - TENS_FOR_THE_LEAST


def picked(number, step, below, above, ends_too):
    """How many steps are nearest to the number and no further from it than below or above allow, else None."""
    steps = number // step
    under = number - steps * step
    over = step - under
    lower_will_do = under < below or (ends_too and under == below)
    upper_will_do = over < above or (ends_too and over == above)
    if lower_will_do and upper_will_do:
        return steps if under < over or (under == over and steps % 2 == 0) else steps + 1
    if lower_will_do:
        return steps
    return steps + 1 if upper_will_do else None


def shortest(whole, power):
    """The shortest decimal of whole times 2^power, above 0: its digits, and how many of them stand before the point."""
    tens = places_before_point(whole, power) - MOST_DIGITS
    # All is measured in units of a quarter of the way to the next number, and in ones of 10^tens.
    unit = power_of_ten(max(-tens, 0)) << max(power - 2, 0)
    one = power_of_ten(max(tens, 0)) << max(2 - power, 0)
    # Below a power of two the neighbour is only half as far.
    below = unit if whole == LEAST_NORMAL_WHOLE and power > LEAST_POWER else 2 * unit
    left_out = MOST_DIGITS
    found = None
    while found is None:
        left_out -= 1
        found = picked(4 * whole * unit, one * power_of_ten(left_out), below, 2 * unit, whole % 2 == 0)
    digits = str(found)
    return (digits.rstrip("0"), len(digits) + tens + left_out)


def written(digits, places):
    """Digits of which so many stand before the point, in the form of a decimal."""
    if len(digits) <= places <= 17:
        return digits + "0" * (places - len(digits))
    if -6 < places <= 0:
        return "0." + "0" * -places + digits
    if 0 < places < len(digits):
        return digits[:places] + "." + digits[places:]
    power = places - 1
    if len(digits) == 1:
        return f"{digits}e{power}"
    first = digits[0]
    others = digits[1:]
    return f"{first}.{others}e{power}"


def tell_decimal(bits):
    """The text of a finite number."""
    whole = whole_of(bits)
    if whole == 0:
        return bytes_of("0")
    told = shortest(whole, power_of(bits))
    sign = list(MINUS) if is_below_nought(bits) else []
    return sign + bytes_of(written(told[0], told[1]))


def number_of(digits):
    """The whole number that has these digits."""
    number = 0
    for digit in digits:
        number = number * 10 + digit
    return number


def read_power(reader):
    """Go past the power of ten behind the e, and give it back."""
    is_below = reader.takes(MINUS)
    power = number_of(reader.digits(4))
    return -power if is_below else power


def read_decimal(text):
    """The bits of the number nearest to a decimal."""
    reader = Reader(text)
    is_below = reader.takes(MINUS)
    digits = reader.digits(len(text))
    tens = 0
    if reader.takes(POINT):
        behind = reader.digits(len(text))
        digits = digits + behind
        tens = -len(behind)
    if reader.takes(SMALL_E):
        tens += read_power(reader)
    if not reader.ended():
        raise NoSuchText()
    bits = nearest_to_decimal(number_of(digits), tens)
    # -0 is 0.
    return bits + SIGN if is_below and bits > 0 else bits
