"""What calls answer: refusals, and texts with their length before them."""

OUT_OF_RANGE = -8
NO_SUCH_TEXT = -4


class NoSuchText(Exception):
    """A text was to be read that nothing is told by."""


def counted(text):
    """A text as it is answered: how many bytes, then they."""
    return [len(text)] + text
