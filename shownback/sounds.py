"""Rows in files: samples by how they differ from those before."""

from shownback.answers import WrongPiece
from shownback.bounds import is_row_length
from shownback.kept import read_kept, signed, tell_best
from shownback.pieces import low_bytes, tell_last_piece, tell_piece

SAMPLES_OF_A_PART = 4096
ORDERS = 4


def differences(numbers):
    """Each number less the one before it; before the first there is 0."""
    before = 0
    told = []
    for number in numbers:
        told.append(signed(number - before))
        before = number
    return told


def tell_part(samples):
    """The bytes of samples: the best order, then the differences of that order kept."""
    tried = [samples]
    while len(tried) < ORDERS:
        tried.append(differences(tried[-1]))
    return tell_best(tried)


def tell_sound(rate, samples):
    """The file of a row."""
    told = tell_piece("HEAD", low_bytes(rate, 4) + low_bytes(len(samples), 3))
    for start in range(0, len(samples), SAMPLES_OF_A_PART):
        told.extend(tell_piece("PART", tell_part(samples[start:start + SAMPLES_OF_A_PART])))
    return told + tell_last_piece()


def running_sums(numbers):
    """The numbers of which these are the differences."""
    total = 0
    told = []
    for number in numbers:
        total = signed(total + number)
        told.append(total)
    return told


def read_part(reader, many):
    """Go past so many samples, and give them back."""
    order = reader.byte()
    if order >= ORDERS:
        raise WrongPiece()
    numbers = read_kept(reader, many)
    for step in range(order):
        numbers = running_sums(numbers)
    return numbers


def read_sound(reader):
    """Rate, how many samples, and they, of the row in a file."""
    reader.begin(("HEAD",))
    rate = reader.low_number(4)
    many = reader.low_number(3)
    if not is_row_length(rate, many):
        raise WrongPiece()
    reader.close()
    samples = []
    while len(samples) < many:
        reader.begin(("PART",))
        samples.extend(read_part(reader, min(many - len(samples), SAMPLES_OF_A_PART)))
        reader.close()
    reader.finish()
    return [rate, many] + samples
