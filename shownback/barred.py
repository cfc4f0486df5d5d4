"""Rows of samples as bars: a column of cells shows how great its samples are, in eighths of a line."""

from shownback.answers import NoSuchText
from shownback.bounds import is_room_for_bars
from shownback.reading import LINE_FEED, read_cells

NO_BAR = (32,)
BAR_HEAD = (0xE2, 0x96)


def column_size(column, columns, samples):
    """The greatest size of the samples that a column stands for."""
    first = column * len(samples) // columns
    behind = (column + 1) * len(samples) // columns
    return max([abs(sample) for sample in samples[first:behind]])


def column_height(size, lines):
    """How high a column of that size is, in eighths of a line."""
    return (size * 8 * lines + 16384) // 32768


def tell_cell(eighths):
    """The cell of a column that reaches so many eighths above the cell's foot, or none."""
    if eighths <= 0:
        return list(NO_BAR)
    return list(BAR_HEAD) + [0x80 + min(eighths, 8)]


def tell_bars(columns, lines, samples):
    """The text that shows samples as bars."""
    heights = [column_height(column_size(k, columns, samples), lines) for k in range(columns)]
    text = []
    for below in range(lines - 1, -1, -1):
        for height in heights:
            text.extend(tell_cell(height - 8 * below))
        text.append(LINE_FEED)
    return text


def read_cell(reader):
    """How many eighths of the next cell are filled."""
    if reader.takes(NO_BAR):
        return 0
    reader.needs(BAR_HEAD)
    return reader.byte(0x81, 0x88) - 0x80


def read_height(cells):
    """How high a column is, told by its cells from above."""
    height = 0
    for eighths in cells:
        if height > 0 and eighths != 8:
            raise NoSuchText()
        height += eighths
    return height


def read_bars(text):
    """How many columns and lines a text of bars has, and how high the columns are."""
    lines = read_cells(text, read_cell)
    columns = len(lines[0])
    if not is_room_for_bars(columns, len(lines)):
        raise NoSuchText()
    return [columns, len(lines)] + [read_height([line[k] for line in lines]) for k in range(columns)]
