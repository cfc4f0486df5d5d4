"""The calls. Each answers a list of whole numbers: a number below 0 alone is a refusal."""

from shownback.answers import NO_SUCH_SHEET, NO_SUCH_TEXT, OUT_OF_RANGE, TOO_GREAT, WRONG_PIECE
from shownback.answers import NoSuchSheet, NoSuchText, TooGreat, WrongPiece, counted
from shownback.barred import read_bars, tell_bars
from shownback.bounds import MOST_BYTES, MOST_BYTES_OF_A_NUMBER, MOST_BYTES_OF_A_TABLE
from shownback.bounds import MOST_OF_16_BITS, MOST_OF_32_BITS
from shownback.bounds import all_within, are_names, are_table_lines
from shownback.bounds import is_film, is_room_for_bars, is_row, is_sheet, is_text
from shownback.decimals import read_decimal, tell_decimal
from shownback.dotted import read_dots, tell_dots
from shownback.doubles import is_finite
from shownback.films import read_film, tell_film
from shownback.halves import read_blocks, tell_blocks
from shownback.pieces import PieceReader
from shownback.sounds import read_sound, tell_sound
from shownback.stills import read_still, tell_still
from shownback.sums import joined_sum, sum_of_bytes
from shownback.tabled import read_table, tell_table


def read_back(given, read, most):
    """What a text of so many bytes at most tells, which read reads."""
    if not is_text(given, most):
        return [OUT_OF_RANGE]
    try:
        told = read(given)
    except NoSuchText:
        return [NO_SUCH_TEXT]
    return [0] + told


def read_file(given, read):
    """What a file tells, which read reads piece by piece."""
    if not is_text(given, MOST_BYTES):
        return [OUT_OF_RANGE]
    reader = PieceReader(given)
    try:
        told = read(reader)
    except WrongPiece:
        return [WRONG_PIECE - reader.place]
    return [0] + told


def blocks(wide, high, channels, red, green, blue, numbers):
    """A sheet on a ground, as a text of blocks."""
    ground = [red, green, blue]
    if not is_sheet(wide, high, channels, numbers) or not all_within(ground, 0, 255):
        return [OUT_OF_RANGE]
    return counted(tell_blocks(wide, high, channels, ground, numbers))


def unblocks(given):
    """The sheet of three channels that a text of blocks shows."""
    return read_back(given, read_blocks, MOST_BYTES)


def dots(wide, high, channels, turned, numbers):
    """A sheet of one channel, as a text of dots."""
    if channels != 1 or not 0 <= turned <= 1 or not is_sheet(wide, high, channels, numbers):
        return [OUT_OF_RANGE]
    return counted(tell_dots(wide, turned, numbers))


def undots(given):
    """The points that a text of dots shows: how many columns and lines, then 1 or 0 for each."""
    return read_back(given, read_dots, MOST_BYTES)


def bars(rate, columns, lines, samples):
    """A row, as a text of bars."""
    if not is_row(rate, samples) or not is_room_for_bars(columns, lines) or columns > len(samples):
        return [OUT_OF_RANGE]
    return counted(tell_bars(columns, lines, samples))


def unbars(given):
    """How many columns and lines a text of bars has, then how high the columns are."""
    return read_back(given, read_bars, MOST_BYTES)


def decimal(number):
    """A number, as its shortest decimal."""
    if not is_finite(number):
        return [OUT_OF_RANGE]
    return counted(tell_decimal(number))


def undecimal(given):
    """The number nearest to a decimal."""
    if not is_text(given, MOST_BYTES_OF_A_NUMBER):
        return [OUT_OF_RANGE]
    try:
        number = read_decimal(given)
    except NoSuchText:
        return [NO_SUCH_TEXT]
    except TooGreat:
        return [TOO_GREAT]
    return [0, number]


def table(n, names_and_lines):
    """Lines of numbers under n names, as a text."""
    names = names_and_lines[:n]
    lines = names_and_lines[n:]
    if len(names) != n or not are_names(names) or not are_table_lines(n, lines):
        return [OUT_OF_RANGE]
    return counted(tell_table(names, lines))


def untable(given):
    """How many columns and lines a table has, then its names, each behind its length, then its numbers."""
    return read_back(given, read_table, MOST_BYTES_OF_A_TABLE)


def still(wide, high, channels, numbers):
    """A sheet, as a file."""
    if not is_sheet(wide, high, channels, numbers):
        return [OUT_OF_RANGE]
    return counted(tell_still(wide, high, channels, numbers))


def unstill(given):
    """The sheet in a file: wide, high, channels, then its numbers."""
    return read_file(given, read_still)


def film(wide, high, channels, sheets):
    """Sheets of one size, each with its time, as a file."""
    times = sheets[0::2]
    numbers = sheets[1::2]
    if not is_film(wide, high, channels, times, numbers):
        return [OUT_OF_RANGE]
    return counted(tell_film(wide, high, channels, [time[0] for time in times], numbers))


def unfilm(k, given):
    """The k-th sheet of a film in a file: time, wide, high, channels, then its numbers."""
    if k > MOST_OF_16_BITS:
        return [OUT_OF_RANGE]
    try:
        answer = read_file(given, lambda reader: read_film(reader, k))
    except NoSuchSheet:
        return [NO_SUCH_SHEET]
    return answer


def sound(rate, samples):
    """A row, as a file."""
    if not is_row(rate, samples):
        return [OUT_OF_RANGE]
    return counted(tell_sound(rate, samples))


def unsound(given):
    """The row in a file: rate, how many samples, then they."""
    return read_file(given, read_sound)


def sum_of(given):
    """The sum of bytes."""
    if not is_text(given, MOST_BYTES):
        return [OUT_OF_RANGE]
    return [0, sum_of_bytes(given)]


def joined(one, other, length):
    """The sum of two texts, one behind the other, by their sums and the second one's length."""
    if not all_within([one, other, length], 0, MOST_OF_32_BITS):
        return [OUT_OF_RANGE]
    return [0, joined_sum(one, other, length)]
