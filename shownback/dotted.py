"""Sheets of one channel in dots: a cell shows eight points, two wide and four high."""

from shownback.answers import NoSuchText
from shownback.bounds import is_size
from shownback.reading import LINE_FEED, read_cells

STEPS = ((0, 8, 2, 10), (12, 4, 14, 6), (3, 11, 1, 9), (15, 7, 13, 5))
WORTHS = ((1, 8), (2, 16), (4, 32), (64, 128))


def is_on(x, y, number, turned):
    """Whether the point at column x, line y is on."""
    reached = number >= 4096 * STEPS[y % 4][x % 4] + 2048
    return reached != (turned == 1)


def rows_of_points(wide, turned, numbers):
    """The rows of a sheet, from above, each a list of whether its points are on."""
    rows = []
    for start in range(0, len(numbers), wide):
        y = len(rows)
        rows.append([is_on(x, y, numbers[start + x], turned) for x in range(wide)])
    return rows


def cell_sum(rows, left):
    """What the points that are on have together, in the cell of up to four rows that begins at column left."""
    total = 0
    for k in range(len(rows)):
        for side in range(2):
            if left + side < len(rows[k]) and rows[k][left + side]:
                total += WORTHS[k][side]
    return total


def tell_dots(wide, turned, numbers):
    """The text that shows a sheet of one channel in dots."""
    rows = rows_of_points(wide, turned, numbers)
    text = []
    for top in range(0, len(rows), 4):
        four = rows[top:top + 4]
        for left in range(0, wide, 2):
            total = cell_sum(four, left)
            text.extend([0xE2, 0xA0 + total // 64, 0x80 + total % 64])
        text.append(LINE_FEED)
    return text


def read_cell(reader):
    """What the points that are on have together in the next cell."""
    reader.byte(0xE2, 0xE2)
    upper = reader.byte(0xA0, 0xA3) - 0xA0
    return upper * 64 + reader.byte(0x80, 0xBF) - 0x80


def read_dots(text):
    """How many columns and lines of points a text of dots shows, and for each point 1 if it is on, else 0."""
    lines = read_cells(text, read_cell)
    wide = 2 * len(lines[0])
    high = 4 * len(lines)
    if not is_size(wide, high):
        raise NoSuchText()
    told = [wide, high]
    for line in lines:
        for pair in WORTHS:
            for total in line:
                told.extend([1 if total & worth == worth else 0 for worth in pair])
    return told
