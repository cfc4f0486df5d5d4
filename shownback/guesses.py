"""Lines of numbers, each told by how far it is from a guess out of the numbers told before it."""

from shownback.answers import WrongPiece
from shownback.kept import read_kept, signed, tell_best

GUESSES = 5


def guess(which, before, above, corner):
    """What a number is guessed to be from the one before, the one above, and the one above and before."""
    if which == 0:
        return 0
    if which == 1:
        return before
    if which == 2:
        return above
    if which == 3:
        return (before + above) // 2
    # The one in the middle of three.
    return max(min(before, above), min(max(before, above), before + above - corner))


def moved_by(channels, line):
    """For each number of a line the one of its channel in the point before, or 0."""
    return [0] * channels + line[:len(line) - channels]


def off_by(which, line, above, channels):
    """How far each number of a line is from its guess."""
    before = moved_by(channels, line)
    corner = moved_by(channels, above)
    return [signed(line[k] - guess(which, before[k], above[k], corner[k])) for k in range(len(line))]


def tell_line(line, above, channels):
    """The bytes of a line: its best guess, then its numbers kept."""
    return tell_best([off_by(which, line, above, channels) for which in range(GUESSES)])


def tell_lines(length, channels, numbers):
    """The bytes of each line of that length."""
    told = []
    above = [0] * length
    for start in range(0, len(numbers), length):
        line = numbers[start:start + length]
        told.append(tell_line(line, above, channels))
        above = line
    return told


def read_line(reader, above, channels):
    """Go past a line as long as the one above it, and give it back."""
    which = reader.byte()
    if which >= GUESSES:
        raise WrongPiece()
    corner = moved_by(channels, above)
    # What isn't there is 0: so many noughts stand before the line.
    line = [0] * channels
    kept = read_kept(reader, len(above))
    for k in range(len(above)):
        line.append((guess(which, line[k], above[k], corner[k]) + kept[k]) % 65536)
    return line[channels:]


def read_lines(reader, length, many, channels):
    """Go past so many lines of that length, one behind another, and give back the numbers of all."""
    numbers = []
    line = [0] * length
    for y in range(many):
        line = read_line(reader, line, channels)
        numbers.extend(line)
    return numbers
