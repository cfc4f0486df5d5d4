"""What is in its range, and as many as it should be."""

from shownback.doubles import is_finite

MOST_OF_16_BITS = 65535
MOST_OF_32_BITS = 4294967295
MOST_BYTES = 2097152
MOST_BYTES_OF_A_NUMBER = 64
MOST_BYTES_OF_A_TABLE = 65536
MOST_SIDE = 1024
MOST_POINTS = 65536
MOST_SHEETS = 64
MOST_NUMBERS_OF_A_FILM = 262144
MOST_RATE = 1000000
MOST_SAMPLES = 65536
MOST_COLUMNS = 512
MOST_LINES = 64
MOST_NAMES = 16
MOST_NAME_BYTES = 32
MOST_TABLE_LINES = 256


def all_within(numbers, least, most):
    """Whether each of the numbers is from least to most."""
    for number in numbers:
        if not least <= number <= most:
            return False
    return True


def is_text(given, most):
    """Whether these are bytes, and no more than so many."""
    return len(given) <= most and all_within(given, 0, 255)


def is_size(wide, high):
    """Whether a sheet may be so wide and so high."""
    return 1 <= wide <= MOST_SIDE and 1 <= high <= MOST_SIDE and wide * high <= MOST_POINTS


def is_shape(wide, high, channels):
    """Whether a sheet may be so wide and so high and have so many channels."""
    return is_size(wide, high) and 1 <= channels <= 4


def is_sheet(wide, high, channels, numbers):
    """Whether these make a sheet."""
    if not is_shape(wide, high, channels):
        return False
    return len(numbers) == wide * high * channels and all_within(numbers, 0, MOST_OF_16_BITS)


def is_film_shape(wide, high, channels, many):
    """Whether a film may have so many sheets of that shape."""
    if not is_shape(wide, high, channels) or not 1 <= many <= MOST_SHEETS:
        return False
    return wide * high * channels * many <= MOST_NUMBERS_OF_A_FILM


def is_film(wide, high, channels, times, sheets):
    """Whether these make a film; each of the times is a list that should have one number."""
    if len(times) != len(sheets) or not is_film_shape(wide, high, channels, len(sheets)):
        return False
    for time in times:
        if len(time) != 1 or not all_within(time, 0, MOST_OF_16_BITS):
            return False
    for numbers in sheets:
        if not is_sheet(wide, high, channels, numbers):
            return False
    return True


def is_row_length(rate, many):
    """Whether a row may have that rate and so many samples."""
    return 1 <= rate <= MOST_RATE and 1 <= many <= MOST_SAMPLES


def is_row(rate, samples):
    """Whether these make a row."""
    return is_row_length(rate, len(samples)) and all_within(samples, -32768, 32767)


def is_room_for_bars(columns, lines):
    """Whether bars may stand in so many columns and lines."""
    return 1 <= columns <= MOST_COLUMNS and 1 <= lines <= MOST_LINES


def are_names(names):
    """Whether a table may have these names."""
    if not 1 <= len(names) <= MOST_NAMES:
        return False
    for name in names:
        if not 1 <= len(name) <= MOST_NAME_BYTES or not all_within(name, 33, 126):
            return False
    return True


def are_table_lines(columns, lines):
    """Whether these are lines of numbers for a table of so many columns."""
    if len(lines) > MOST_TABLE_LINES:
        return False
    for line in lines:
        if len(line) != columns:
            return False
        for bits in line:
            if not is_finite(bits):
                return False
    return True
