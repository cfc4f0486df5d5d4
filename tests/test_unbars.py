"""Point 6 of DOC.md: unbars."""

import random
import unittest

from helper import called, some_samples, stacked, text_of
from shownback import desk

MOST = 2097152
FULL = b"\xe2\x96\x88"
HALF = b"\xe2\x96\x84"


def read(text):
    return called(desk.unbars, list(text))


def second_reading(text):
    """Read as loosely as can be, then stacked again: it is a text of bars if it comes out the same."""
    words = text.decode(errors="replace")
    lines = words.split("\n")[:-1]
    if not lines or not 1 <= len(lines[0]) <= 512 or len(lines) > 64 or any(len(s) != len(lines[0]) for s in lines):
        return [-4]
    heights = [sum(max(0, min(8, ord(line[k]) - 0x2580)) for line in lines) for k in range(len(lines[0]))]
    if stacked(heights, len(lines)) != text:
        return [-4]
    return [0, len(lines[0]), len(lines)] + heights


class ReadBack(unittest.TestCase):
    def test_the_bytes_as_they_are_written_out(self):
        text = [32, 32, 226, 150, 129, 10, 32, 226, 150, 135, 226, 150, 136, 10]
        self.assertEqual(read(text), [0, 3, 2, 0, 7, 9])

    def test_one_cell(self):
        self.assertEqual(read(b" \n"), [0, 1, 1, 0])
        for eighths in range(1, 9):
            self.assertEqual(read(bytes([0xE2, 0x96, 0x80 + eighths, 10])), [0, 1, 1, eighths])

    def test_every_height_in_every_room(self):
        for lines in (1, 2, 3, 4, 63, 64):
            for height in range(8 * lines + 1):
                self.assertEqual(desk.unbars(list(stacked([height], lines))), [0, 1, lines, height])
            heights = list(range(8 * lines + 1))[-512:]
            self.assertEqual(read(stacked(heights, lines)), [0, len(heights), lines] + heights)

    def test_what_bars_tells(self):
        for seed, (many, columns, lines) in enumerate([(1, 1, 1), (9, 9, 1), (100, 7, 5), (512, 512, 64),
                                                       (600, 3, 64)]):
            for most in (32767, 2000, 1):
                samples = some_samples(seed, many, most)
                text = text_of(desk.bars(1, columns, lines, samples))
                heights = []
                for k in range(columns):
                    own = samples[k * many // columns:(k + 1) * many // columns]
                    heights.append((max(abs(sample) for sample in own) * 8 * lines + 16384) // 32768)
                self.assertEqual(read(text), [0, columns, lines] + heights)

    def test_the_longest_text(self):
        self.assertEqual(read((FULL * 512 + b"\n") * 64), [0, 512, 64] + [512] * 512)
        self.assertEqual(read((b" " * 512 + b"\n") * 64), [0, 512, 64] + [0] * 512)


class NoTextOfBars(unittest.TestCase):
    def refuses(self, text):
        with self.subTest(text=text[:60]):
            self.assertEqual(read(text), [-4])

    def test_nothing_at_all(self):
        self.refuses(b"")

    def test_empty_lines(self):
        self.refuses(b"\n")
        self.refuses(b"\n\n")
        self.refuses(b" \n\n")
        self.refuses(b"\n \n")

    def test_cut_off(self):
        line = HALF + b" " + FULL + b"\n"
        text = b" " * 3 + b"\n" + line
        self.assertEqual(read(text), [0, 3, 2, 4, 0, 8])
        for many in range(len(text)):
            if many != 4:
                self.refuses(text[:many])
        for many in range(1, len(text)):
            if many != 4:
                self.assertEqual(read(text[many:]), second_reading(text[many:]))

    def test_something_behind_or_before(self):
        text = b" " + FULL + b"\n"
        for more in (b"\n", b" ", b"\r", b"\x00", FULL, b"\xe2", b"\xe2\x96", b"\x1b[0m", b" \n", b"   \n"):
            self.refuses(text + more)
        for more in (b"\n", b" \n", b"\x00", b"\xe2", b"   \n", b"\xe2\x96\n"):
            self.refuses(more + text)

    def test_a_cell_that_is_not_full_below_one_that_is_not_blank(self):
        for above in range(9):
            for below in range(9):
                cells = [b" " if n == 0 else bytes([0xE2, 0x96, 0x80 + n]) for n in (above, below)]
                text = cells[0] + b"\n" + cells[1] + b"\n"
                wanted = [0, 1, 2, above + below] if above == 0 or below == 8 else [-4]
                self.assertEqual(read(text), wanted)
        self.refuses(FULL + b"\n \n" + FULL + b"\n")
        self.refuses(HALF + b"\n" + FULL + b"\n" + HALF + b"\n")
        self.refuses(HALF + b"\n \n \n")
        self.refuses(b"  \n " + HALF + b"\n" + FULL + b" \n")

    def test_every_byte_at_each_place_of_a_cell(self):
        for place, allowed in ((0, [0xE2]), (1, [0x96]), (2, range(0x81, 0x89))):
            for byte in range(256):
                cell = bytearray(HALF)
                cell[place] = byte
                wanted = 0 if byte in allowed else -4
                self.assertEqual(desk.unbars(list(cell) + [10])[0], wanted, (place, byte))
        for byte in range(256):
            self.assertEqual(desk.unbars([byte, 10])[0], 0 if byte == 32 else -4, byte)

    def test_lines_of_different_widths(self):
        self.refuses(b" \n  \n")
        self.refuses(b"  \n \n")
        self.refuses(b" \n" + FULL + FULL + b"\n")
        self.refuses(b"   \n" + FULL + b"\n")

    def test_too_many_columns(self):
        self.assertEqual(read(b" " * 512 + b"\n"), [0, 512, 1] + [0] * 512)
        self.refuses(b" " * 513 + b"\n")
        self.refuses(FULL * 513 + b"\n")

    def test_too_many_lines(self):
        self.assertEqual(read(b" \n" * 64), [0, 1, 64, 0])
        self.refuses(b" \n" * 65)
        self.refuses((FULL + b"\n") * 65)

    def test_the_longest_texts(self):
        self.refuses(b" " * 100000)
        self.refuses(b" \n" * 50000)
        self.refuses(FULL * 33333 + b"\n")
        self.refuses(b"\n" * 100000)
        self.refuses(b" " * (MOST - 1) + b"\n")


class Held(unittest.TestCase):
    def test_spoiled_texts_against_a_second_reading(self):
        chance = random.Random(11)
        read_back = 0
        for _ in range(4000):
            columns, lines = chance.randrange(1, 4), chance.randrange(1, 4)
            text = stacked([chance.randrange(8 * lines + 1) for _ in range(columns)], lines)
            for _ in range(chance.randrange(3)):
                at = chance.randrange(len(text) + 1)
                more = chance.choice([b"", b" ", b"\n", FULL, HALF, b"\xe2", bytes([chance.randrange(256)])])
                text = text[:at] + more + text[at + chance.choice([0, 1, 3]):]
            wanted = second_reading(text)
            read_back += wanted[0] == 0
            self.assertEqual(desk.unbars(list(text)), wanted, text)
        self.assertTrue(1000 < read_back < 3900, read_back)

    def test_all_short_rows_of_cells(self):
        texts = [b""]
        for _ in range(5):
            texts = [text + more for text in texts for more in (b" ", b"\n", FULL, HALF, b"\xe2\x96\x81")]
            for text in texts:
                self.assertEqual(desk.unbars(list(text)), second_reading(text), text)


class OutOfRange(unittest.TestCase):
    def refuses(self, numbers):
        self.assertEqual(called(desk.unbars, numbers), [-8])

    def test_something_above_255(self):
        text = list(b" " + FULL + b"\n")
        for over in (256, 266, 288, 300):
            for at in range(len(text)):
                self.refuses(text[:at] + [over] + text[at + 1:])
            self.refuses(text + [over])

    def test_also_where_it_is_no_text_of_bars(self):
        self.refuses([256])
        self.refuses([0, 300])
        self.refuses([10, 10, 256])
        self.refuses([1] * 99999 + [256])
        self.refuses([32] * 600 + [10, 256])

    def test_too_many_bytes(self):
        self.refuses([32] * (MOST + 1))
        self.assertEqual(desk.unbars([0] * MOST), [-4])


if __name__ == "__main__":
    unittest.main()
