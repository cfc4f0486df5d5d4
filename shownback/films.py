"""Sheets of one size in files, one after another: each in full, or what differs from the one before."""

from shownback.answers import NoSuchSheet, WrongPiece
from shownback.bounds import is_film_shape
from shownback.guesses import read_lines, tell_lines
from shownback.pieces import low_bytes, tell_last_piece, tell_piece
from shownback.stills import read_shape, tell_shape

NOWHERE = (0, 0, 0, 0)


def tell_rows(wide, channels, numbers):
    """The bytes of all lines of points so wide, one behind another."""
    told = []
    for line in tell_lines(wide * channels, channels, numbers):
        told.extend(line)
    return told


def least_rectangle(wide, channels, off):
    """x, y, wide and high of the least rectangle with all points that are off."""
    places = [k // channels for k in range(len(off)) if off[k] != 0]
    if places == []:
        return NOWHERE
    columns = [place % wide for place in places]
    left = min(columns)
    top = places[0] // wide
    return (left, top, max(columns) - left + 1, places[-1] // wide - top + 1)


def starts_of_rows(rectangle, wide, channels):
    """Where in the numbers of a sheet the rows of a rectangle begin."""
    return [((rectangle[1] + y) * wide + rectangle[0]) * channels for y in range(rectangle[3])]


def cut_out(rectangle, wide, channels, numbers):
    """The numbers of a sheet that are within a rectangle."""
    within = []
    for start in starts_of_rows(rectangle, wide, channels):
        within.extend(numbers[start:start + rectangle[2] * channels])
    return within


def tell_part(wide, channels, numbers, before):
    """The bytes of what differs from the sheet before."""
    off = [(numbers[k] - before[k]) % 65536 for k in range(len(numbers))]
    rectangle = least_rectangle(wide, channels, off)
    told = []
    for measure in rectangle:
        told.extend(low_bytes(measure, 2))
    if rectangle == NOWHERE:
        return told
    return told + tell_rows(rectangle[2], channels, cut_out(rectangle, wide, channels, off))


def tell_film(wide, high, channels, times, sheets):
    """The file of sheets."""
    told = tell_piece("HEAD", tell_shape(wide, high, channels) + low_bytes(len(sheets), 2))
    for k in range(len(sheets)):
        letters = "FULL"
        content = tell_rows(wide, channels, sheets[k])
        if k > 0:
            part = tell_part(wide, channels, sheets[k], sheets[k - 1])
            if len(part) < len(content):
                letters = "PART"
                content = part
        told.extend(tell_piece(letters, low_bytes(times[k], 2) + content))
    return told + tell_last_piece()


def read_rectangle(reader, wide, high):
    """Go past x, y, wide and high of a rectangle within a sheet, or of none, and give them back."""
    rectangle = tuple([reader.low_number(2) for measure in range(4)])
    if rectangle == NOWHERE:
        return rectangle
    if rectangle[2] == 0 or rectangle[0] + rectangle[2] > wide:
        raise WrongPiece()
    if rectangle[3] == 0 or rectangle[1] + rectangle[3] > high:
        raise WrongPiece()
    return rectangle


def read_part(reader, shape, before):
    """Go past what differs from the sheet before, and give back the numbers of the sheet."""
    rectangle = read_rectangle(reader, shape[0], shape[1])
    length = rectangle[2] * shape[2]
    off = read_lines(reader, length, rectangle[3], shape[2])
    numbers = list(before)
    at = 0
    for start in starts_of_rows(rectangle, shape[0], shape[2]):
        for k in range(start, start + length):
            numbers[k] = (numbers[k] + off[at]) % 65536
            at += 1
    return numbers


def read_head(reader):
    """Go past the head, and give back wide, high, channels and how many sheets."""
    reader.begin(("HEAD",))
    shape = read_shape(reader)
    many = reader.low_number(2)
    if not is_film_shape(shape[0], shape[1], shape[2], many):
        raise WrongPiece()
    reader.close()
    return shape + [many]


def read_film(reader, asked):
    """Time, wide, high, channels and the numbers of the sheet that is asked for; all sheets are read."""
    head = read_head(reader)
    shape = head[:3]
    found = None
    numbers = None
    for k in range(head[3]):
        letters = reader.begin(("FULL",) if k == 0 else ("FULL", "PART"))
        time = reader.low_number(2)
        if letters == "FULL":
            numbers = read_lines(reader, shape[0] * shape[2], shape[1], shape[2])
        else:
            numbers = read_part(reader, shape, numbers)
        reader.close()
        if k == asked:
            found = [time] + shape + numbers
    reader.finish()
    if found is None:
        raise NoSuchSheet()
    return found
