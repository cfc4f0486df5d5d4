"""What calls answer: refusals, and texts with their length before them."""

OUT_OF_RANGE = -8
TOO_GREAT = -7
NO_SUCH_SHEET = -5
NO_SUCH_TEXT = -4
# Less the number of the first piece that is wrong.
WRONG_PIECE = -100


class NoSuchText(Exception):
    """A text was to be read that nothing is told by."""


class NoSuchSheet(Exception):
    """A sheet was asked for that a film does not have."""


class TooGreat(Exception):
    """A number was told that is greater than all there are."""


class WrongPiece(Exception):
    """A file was to be read that is wrong in the piece that was come to."""


def counted(text):
    """A text or a file as it is answered: how many bytes, then they."""
    return [len(text)] + text
