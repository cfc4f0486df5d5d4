"""Numbers in tables: names above columns of decimals."""

from shownback.decimals import tell_decimal
from shownback.reading import LINE_FEED

BLANK = 32
DASH = 45
BETWEEN = (BLANK, BLANK)


def at_the_right(words):
    """The words, each at the right of as much room as the longest of them has."""
    room = max([len(word) for word in words])
    return [[BLANK] * (room - len(word)) + word for word in words]


def tell_row(columns, row):
    """The bytes of one row of the columns, without the line feed."""
    told = []
    for column in columns:
        if told != []:
            told.extend(BETWEEN)
        told.extend(column[row])
    return told


def tell_table(names, lines):
    """The text of a table."""
    columns = []
    for k in range(len(names)):
        columns.append(at_the_right([names[k]] + [tell_decimal(line[k]) for line in lines]))
    head = tell_row(columns, 0)
    text = head + [LINE_FEED] + [DASH] * len(head) + [LINE_FEED]
    for row in range(1, len(lines) + 1):
        text.extend(tell_row(columns, row) + [LINE_FEED])
    return text
