"""Numbers from -32768 to 32767 kept as bytes: many noughts in one, small ones in one, others in two or three."""

from shownback.answers import WrongPiece

MOST_NOUGHTS = 64
MOST_IN_ONE = 64
MOST_IN_TWO = 16448
LONGEST = 192


def signed(number):
    """What is left of a number by rests of 2^16, as 16 bits with a sign."""
    return (number + 32768) % 65536 - 32768


def tell_one(number):
    """The bytes of a number that is not 0."""
    folded = 2 * number if number > 0 else -2 * number - 1
    if folded <= MOST_IN_ONE:
        return [63 + folded]
    if folded <= MOST_IN_TWO:
        more = folded - MOST_IN_ONE - 1
        return [128 + more // 256, more % 256]
    return [LONGEST, folded % 256, folded // 256]


def tell_kept(numbers):
    """The bytes of numbers one after another."""
    told = []
    noughts = 0
    for number in numbers:
        if noughts > 0 and (number != 0 or noughts == MOST_NOUGHTS):
            told.append(noughts - 1)
            noughts = 0
        if number == 0:
            noughts += 1
        else:
            told.extend(tell_one(number))
    if noughts > 0:
        told.append(noughts - 1)
    return told


def tell_best(tried):
    """Of several lists the one with the least sum of sizes, or the first of these: which it is, then its bytes."""
    sizes = [sum([abs(number) for number in numbers]) for numbers in tried]
    best = sizes.index(min(sizes))
    return [best] + tell_kept(tried[best])


def read_folded(first, reader):
    """Go past what's behind the first byte of a number that is not 0, and give back the number, folded."""
    if first < 128:
        return first - 63
    if first < LONGEST:
        return (first - 128) * 256 + reader.byte() + MOST_IN_ONE + 1
    folded = reader.low_number(2)
    if first > LONGEST or folded <= MOST_IN_TWO:
        raise WrongPiece()
    return folded


def read_kept(reader, many):
    """Go past so many numbers, which must be kept just as they are told, and give them back."""
    numbers = []
    # Noughts that did not fill a byte can't be followed by others: all would have been told at once.
    may_be_noughts = True
    while len(numbers) < many:
        first = reader.byte()
        if first < MOST_NOUGHTS:
            if not may_be_noughts or len(numbers) + first + 1 > many:
                raise WrongPiece()
            numbers.extend([0] * (first + 1))
            may_be_noughts = first + 1 == MOST_NOUGHTS
        else:
            folded = read_folded(first, reader)
            numbers.append(folded // 2 if folded % 2 == 0 else -(folded // 2) - 1)
            may_be_noughts = True
    return numbers
