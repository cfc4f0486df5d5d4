"""Sheets in files."""

from shownback.answers import WrongPiece
from shownback.bounds import is_shape
from shownback.guesses import read_line, tell_lines
from shownback.pieces import low_bytes, tell_last_piece, tell_piece


def tell_shape(wide, high, channels):
    """The bytes that a file's head begins with."""
    return low_bytes(wide, 2) + low_bytes(high, 2) + [channels]


def read_shape(reader):
    """Go past wide, high and channels, and give them back."""
    shape = [reader.low_number(2), reader.low_number(2), reader.byte()]
    if not is_shape(shape[0], shape[1], shape[2]):
        raise WrongPiece()
    return shape


def tell_still(wide, high, channels, numbers):
    """The file of a sheet."""
    told = tell_piece("HEAD", tell_shape(wide, high, channels))
    for line in tell_lines(wide * channels, channels, numbers):
        told.extend(tell_piece("LINE", line))
    return told + tell_last_piece()


def read_still(reader):
    """Wide, high, channels and the numbers of the sheet in a file."""
    reader.begin(("HEAD",))
    shape = read_shape(reader)
    reader.close()
    numbers = []
    line = [0] * (shape[0] * shape[2])
    for y in range(shape[1]):
        reader.begin(("LINE",))
        line = read_line(reader, line, shape[2])
        reader.close()
        numbers.extend(line)
    reader.finish()
    return shape + numbers
