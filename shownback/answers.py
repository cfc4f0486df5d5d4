"""What calls answer: refusals, and texts with their length before them."""

OUT_OF_RANGE = -8
TOO_GREAT = -7
NO_SUCH_TEXT = -4


class NoSuchText(Exception):
    """A text was to be read that nothing is told by."""


class TooGreat(Exception):
    """A number was told that is greater than all there are."""


def counted(text):
    """A text as it is answered: how many bytes, then they."""
    return [len(text)] + text
