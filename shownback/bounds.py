"""What is in its range, and as many as it should be."""

MOST_BYTES = 2097152
MOST_SIDE = 1024
MOST_POINTS = 65536


def all_within(numbers, most):
    """Whether each of the numbers is from 0 to most."""
    for number in numbers:
        if not 0 <= number <= most:
            return False
    return True


def is_text(given):
    """Whether these are bytes, and no more of them than may be handed over."""
    return len(given) <= MOST_BYTES and all_within(given, 255)


def is_size(wide, high):
    """Whether a sheet may be so wide and so high."""
    return 1 <= wide <= MOST_SIDE and 1 <= high <= MOST_SIDE and wide * high <= MOST_POINTS


def is_sheet(wide, high, channels, numbers):
    """Whether these make a sheet."""
    if not is_size(wide, high) or not 1 <= channels <= 4:
        return False
    return len(numbers) == wide * high * channels and all_within(numbers, 65535)
