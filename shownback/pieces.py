"""Files as pieces: letters, a length, as many bytes, and the sum of all these."""

from shownback.answers import WrongPiece
from shownback.reading import bytes_of
from shownback.sums import sum_of_bytes


def low_bytes(number, many):
    """A number as so many bytes, the lowest first."""
    return [(number >> (8 * k)) & 255 for k in range(many)]


def from_low_bytes(given):
    """The number of which these are the bytes, the lowest first."""
    number = 0
    for k in range(len(given)):
        number += given[k] << (8 * k)
    return number


def tell_piece(letters, content):
    """The bytes of a piece."""
    told = bytes_of(letters) + low_bytes(len(content), 4) + content
    return told + low_bytes(sum_of_bytes(told), 4)


def tell_last_piece():
    """The bytes of the piece that ends a file."""
    return tell_piece("DONE", [])


class PieceReader:
    """A file that is read piece by piece: which piece was come to, from 0, and how far it has been read."""

    def __init__(self, given):
        self.given = given
        self.place = -1
        self.at = 0
        self.end = 0

    def byte(self):
        """Go past a byte of the piece, and give it back."""
        if self.at == self.end:
            raise WrongPiece()
        self.at += 1
        return self.given[self.at - 1]

    def low_number(self, many):
        """Go past a number of so many bytes, the lowest first, and give it back."""
        if self.at + many > self.end:
            raise WrongPiece()
        self.at += many
        return from_low_bytes(self.given[self.at - many:self.at])

    def begin(self, choices):
        """Come to the next piece, which must be whole and have letters from among the choices; give these back."""
        self.place += 1
        start = self.at
        head_end = start + 8
        if head_end > len(self.given):
            raise WrongPiece()
        self.at = head_end
        self.end = head_end + from_low_bytes(self.given[start + 4:head_end])
        if self.end + 4 > len(self.given):
            raise WrongPiece()
        if from_low_bytes(self.given[self.end:self.end + 4]) != sum_of_bytes(self.given[start:self.end]):
            raise WrongPiece()
        for choice in choices:
            if bytes_of(choice) == self.given[start:start + 4]:
                return choice
        raise WrongPiece()

    def close(self):
        """Leave the piece, of which all must have been read."""
        if self.at != self.end:
            raise WrongPiece()
        self.at += 4

    def finish(self):
        """Go past the piece that ends the file, behind which there must be nothing."""
        self.begin(("DONE",))
        self.close()
        self.place += 1
        if self.at != len(self.given):
            raise WrongPiece()
