"""A text that is read from its first byte on, and words as bytes."""

from shownback.answers import NoSuchText

LINE_FEED = 10
LINE_END = (10,)


def bytes_of(words):
    """The bytes of words that are all ASCII."""
    return [ord(sign) for sign in words]


class Reader:
    """A text, and how far it has been read."""

    def __init__(self, text):
        self.text = text
        self.at = 0

    def ended(self):
        """Whether all of the text has been read."""
        return self.at == len(self.text)

    def takes(self, wanted):
        """Go past the bytes of a tuple if they are next; whether they were."""
        behind = self.at + len(wanted)
        if tuple(self.text[self.at:behind]) != wanted:
            return False
        self.at = behind
        return True

    def needs(self, wanted):
        """Go past the bytes of a tuple, which must be next."""
        if not self.takes(wanted):
            raise NoSuchText()

    def byte(self, least, most):
        """Go past a byte, which must be from least to most, and give it back."""
        if self.ended() or not least <= self.text[self.at] <= most:
            raise NoSuchText()
        self.at += 1
        return self.text[self.at - 1]

    def digits(self, most):
        """Go past digits, one at least and no more than most, and give back what each is worth."""
        found = [self.byte(48, 57) - 48]
        while len(found) < most and not self.ended() and 48 <= self.text[self.at] <= 57:
            found.append(self.text[self.at] - 48)
            self.at += 1
        return found

    def number(self, most):
        """Go past a number from 0 to most, in decimal without zeros before, and give it back."""
        start = self.at
        value = 0
        while not self.ended() and 48 <= self.text[self.at] <= 57 and value <= most:
            value = value * 10 + self.text[self.at] - 48
            self.at += 1
        # Written anew it is the same only if there was a digit, and no zero before.
        if value > most or self.text[start:self.at] != bytes_of(str(value)):
            raise NoSuchText()
        return value


def read_cells(text, read_cell):
    """The lines of cells of a text, one at least and all of one width; read_cell goes past a cell and tells it."""
    reader = Reader(text)
    lines = []
    while lines == [] or not reader.ended():
        line = []
        while not reader.takes(LINE_END):
            line.append(read_cell(reader))
        lines.append(line)
        if len(line) != len(lines[0]):
            raise NoSuchText()
    return lines
