"""Sheets in blocks: a cell shows two points, one above the other."""

from shownback.answers import NoSuchText
from shownback.bounds import is_size
from shownback.reading import Reader, bytes_of

UPPER_HEAD = (27, 91, 51, 56, 59, 50, 59)  # ESC[38;2;
LOWER_HEAD = (27, 91, 52, 56, 59, 50, 59)  # ESC[48;2;
BETWEEN = (59,)  # ;
COLOURS_END = (109,)  # m
UPPER_HALF = (0xE2, 0x96, 0x80)
LINE_END = (27, 91, 48, 109, 10)  # ESC[0mLF


def on_ground(point, ground):
    """The three colours that a point, told by its channels, has on the ground."""
    bright = [number // 256 for number in point]
    colours = bright[:3] if len(bright) >= 3 else [bright[0]] * 3
    if len(bright) == 1 or len(bright) == 3:
        return colours
    cover = bright[-1]
    return [(colours[k] * cover + ground[k] * (255 - cover) + 127) // 255 for k in range(3)]


def rows_on_ground(wide, channels, ground, numbers):
    """The rows of a sheet, from above, each a list of its points' colours."""
    rows = []
    for start in range(0, len(numbers), wide * channels):
        row = []
        for at in range(start, start + wide * channels, channels):
            row.append(on_ground(numbers[at:at + channels], ground))
        rows.append(row)
    return rows


def tell_colours(head, colours):
    """The bytes that tell three colours."""
    return list(head) + bytes_of(";".join([str(colour) for colour in colours])) + list(COLOURS_END)


def tell_line(uppers, lowers):
    """The line of cells for two rows of colours."""
    text = []
    upper = None
    lower = None
    for k in range(len(uppers)):
        if uppers[k] != upper:
            upper = uppers[k]
            text.extend(tell_colours(UPPER_HEAD, upper))
        if lowers[k] != lower:
            lower = lowers[k]
            text.extend(tell_colours(LOWER_HEAD, lower))
        text.extend(UPPER_HALF)
    text.extend(LINE_END)
    return text


def tell_blocks(wide, high, channels, ground, numbers):
    """The text that shows a sheet in blocks."""
    rows = rows_on_ground(wide, channels, ground, numbers)
    if high % 2 == 1:
        rows.append([ground] * wide)
    text = []
    for y in range(0, len(rows), 2):
        text.extend(tell_line(rows[y], rows[y + 1]))
    return text


def read_colours(reader, head, last):
    """The colours that hold for the next cell, the last ones being those that were told before in its line."""
    if not reader.takes(head):
        if last is None:
            raise NoSuchText()
        return last
    colours = []
    for mark in (BETWEEN, BETWEEN, COLOURS_END):
        colours.append(reader.number(255))
        reader.needs(mark)
    if colours == last:
        raise NoSuchText()
    return colours


def read_line(reader):
    """The two rows of colours that the next line of cells shows."""
    uppers = []
    lowers = []
    upper = None
    lower = None
    while not reader.takes(LINE_END):
        upper = read_colours(reader, UPPER_HEAD, upper)
        lower = read_colours(reader, LOWER_HEAD, lower)
        reader.needs(UPPER_HALF)
        uppers.append(upper)
        lowers.append(lower)
    return [uppers, lowers]


def read_rows(text):
    """The rows of colours that a text shows, from above, all of one width."""
    reader = Reader(text)
    rows = []
    while not reader.ended():
        rows.extend(read_line(reader))
        if len(rows[-1]) != len(rows[0]):
            raise NoSuchText()
    return rows


def read_blocks(text):
    """Wide, high, and three colours for each point of the sheet that a text shows in blocks."""
    rows = read_rows(text)
    if rows == [] or not is_size(len(rows[0]), len(rows)):
        raise NoSuchText()
    told = [len(rows[0]), len(rows)]
    for row in rows:
        for colours in row:
            told.extend(colours)
    return told
