"""Numbers in tables: names above columns of decimals."""

from shownback.answers import NoSuchText, TooGreat
from shownback.bounds import MOST_BYTES_OF_A_NUMBER, MOST_TABLE_LINES, are_names
from shownback.decimals import read_decimal, tell_decimal
from shownback.reading import LINE_FEED

BLANK = 32
DASH = 45
BETWEEN = (32, 32)


def at_the_right(words):
    """The words, each at the right of as much room as the longest of them has."""
    room = max([len(word) for word in words])
    return [[BLANK] * (room - len(word)) + word for word in words]


def tell_row(columns, row):
    """The bytes of one row of the columns, without the line feed."""
    told = []
    for column in columns:
        if told != []:
            told.extend(BETWEEN)
        told.extend(column[row])
    return told


def tell_table(names, lines):
    """The text of a table."""
    columns = []
    for k in range(len(names)):
        columns.append(at_the_right([names[k]] + [tell_decimal(line[k]) for line in lines]))
    head = tell_row(columns, 0)
    text = head + [LINE_FEED] + [DASH] * len(head) + [LINE_FEED]
    for row in range(1, len(lines) + 1):
        text.extend(tell_row(columns, row) + [LINE_FEED])
    return text


def parted(text, mark):
    """What stands before, between and behind the marks in a text."""
    parts = []
    part = []
    for byte in text:
        if byte == mark:
            parts.append(part)
            part = []
        else:
            part.append(byte)
    parts.append(part)
    return parts


def words_of(row):
    """What stands in a row between blanks, be they ever so many."""
    return [word for word in parted(row, BLANK) if word != []]


def read_number(word):
    """The bits of a number in a table."""
    if len(word) > MOST_BYTES_OF_A_NUMBER:
        raise NoSuchText()
    try:
        bits = read_decimal(word)
    except TooGreat:
        raise NoSuchText()
    return bits


def read_numbers(words, columns):
    """The bits of a line of so many numbers."""
    if len(words) != columns:
        raise NoSuchText()
    return [read_number(word) for word in words]


def read_table(text):
    """How many columns and lines a table has, its names, each behind its length, and its numbers."""
    rows = parted(text, LINE_FEED)
    if not 3 <= len(rows) <= MOST_TABLE_LINES + 3:
        raise NoSuchText()
    names = words_of(rows[0])
    if not are_names(names):
        raise NoSuchText()
    lines = [read_numbers(words_of(row), len(names)) for row in rows[2:-1]]
    # It has been read without looking at blanks, dashes or forms: told anew, all of these must come out the same.
    if tell_table(names, lines) != text:
        raise NoSuchText()
    told = [len(names), len(lines)]
    for name in names:
        told.extend([len(name)] + name)
    for line in lines:
        told.extend(line)
    return told
