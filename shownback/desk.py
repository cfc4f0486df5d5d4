"""The calls. Each answers a list of whole numbers: a number below 0 alone is a refusal."""

from shownback.answers import NO_SUCH_TEXT, OUT_OF_RANGE, NoSuchText, counted
from shownback.bounds import all_within, is_sheet, is_text
from shownback.dotted import tell_dots
from shownback.halves import read_blocks, tell_blocks


def blocks(wide, high, channels, red, green, blue, numbers):
    """A sheet on a ground, as a text of blocks."""
    ground = [red, green, blue]
    if not is_sheet(wide, high, channels, numbers) or not all_within(ground, 255):
        return [OUT_OF_RANGE]
    return counted(tell_blocks(wide, high, channels, ground, numbers))


def unblocks(given):
    """The sheet of three channels that a text of blocks shows."""
    if not is_text(given):
        return [OUT_OF_RANGE]
    try:
        told = read_blocks(given)
    except NoSuchText:
        return [NO_SUCH_TEXT]
    return [0] + told


def dots(wide, high, channels, turned, numbers):
    """A sheet of one channel, as a text of dots."""
    if channels != 1 or not all_within([turned], 1) or not is_sheet(wide, high, channels, numbers):
        return [OUT_OF_RANGE]
    return counted(tell_dots(wide, turned, numbers))
