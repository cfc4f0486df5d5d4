"""Point 4 of DOC.md: undots."""

import random
import unittest

from helper import called, second_dots, some_numbers, text_of
from shownback import desk

MOST = 2097152
# Where each point of a cell stands, row by row, and what it has.
WORTH = [1, 8, 2, 16, 4, 32, 64, 128]
CELL = b"\xe2\xa1\x95"
LINE = CELL + b"\xe2\xa3\xbf\n"


def read(text):
    return called(desk.undots, list(text))


def cells(*totals):
    return "".join(chr(0x2800 + total) for total in totals).encode()


def second_reading(text):
    """Read as signs of Unicode, then held against the sizes."""
    try:
        words = text.decode()
    except UnicodeDecodeError:
        return [-4]
    lines = words.split("\n")
    if lines.pop() != "" or not lines:
        return [-4]
    wide, high = 2 * len(lines[0]), 4 * len(lines)
    if not (1 <= wide <= 1024 and high <= 1024 and wide * high <= 65536):
        return [-4]
    if any(2 * len(line) != wide for line in lines):
        return [-4]
    if any(not 0x2800 <= ord(sign) < 0x2900 for line in lines for sign in line):
        return [-4]
    weights = {(0, 0): 1, (0, 1): 2, (0, 2): 4, (0, 3): 64, (1, 0): 8, (1, 1): 16, (1, 2): 32, (1, 3): 128}
    points = [ord(lines[y // 4][x // 2]) & weights[x % 2, y % 4] for y in range(high) for x in range(wide)]
    return [0, wide, high] + [int(point > 0) for point in points]


class ReadBack(unittest.TestCase):
    def test_the_bytes_as_they_are_written_out(self):
        self.assertEqual(read([0xE2, 0xA0, 0x80, 10]), [0, 2, 4] + [0] * 8)
        self.assertEqual(read([0xE2, 0xA3, 0xBF, 10]), [0, 2, 4] + [1] * 8)
        self.assertEqual(read([0xE2, 0xA0, 0x81, 0xE2, 0xA2, 0x80, 10]), [0, 4, 4, 1, 0, 0, 0] + [0] * 11 + [1])

    def test_two_lines_by_hand(self):
        text = cells(1 + 16) + b"\n" + cells(64 + 32) + b"\n"
        self.assertEqual(read(text), [0, 2, 8, 1, 0, 0, 1, 0, 0, 0, 0, 0, 0, 0, 0, 0, 1, 1, 0])

    def test_every_cell(self):
        for total in range(256):
            wanted = [0, 2, 4] + [1 if total & worth else 0 for worth in WORTH]
            self.assertEqual(read(cells(total) + b"\n"), wanted)

    def test_what_dots_tells(self):
        sizes = [(2, 4), (4, 4), (2, 8), (6, 12), (16, 16), (1024, 4), (2, 1024), (1024, 64), (64, 1024), (256, 256)]
        for seed, (wide, high) in enumerate(sizes):
            for turned in (0, 1):
                with self.subTest(wide=wide, high=high, turned=turned):
                    chance = random.Random(seed)
                    points = [chance.randrange(2) for _ in range(wide * high)]
                    text = text_of(desk.dots(wide, high, 1, turned, [65535 * (point ^ turned) for point in points]))
                    self.assertEqual(read(text), [0, wide, high] + points)

    def test_any_numbers(self):
        for seed, (wide, high) in enumerate([(2, 4), (8, 8), (10, 20), (50, 4), (2, 100)]):
            text = second_dots(wide, high, 0, some_numbers(seed, wide * high))
            self.assertEqual(read(text), second_reading(text))

    def test_a_sheet_that_is_not_even_is_read_with_its_room(self):
        text = text_of(desk.dots(1, 1, 1, 0, [65535]))
        self.assertEqual(read(text), [0, 2, 4, 1, 0, 0, 0, 0, 0, 0, 0])
        text = text_of(desk.dots(3, 5, 1, 0, [65535] * 15))
        wanted = [[1, 1, 1, 0]] * 5 + [[0] * 4] * 3
        self.assertEqual(read(text), [0, 4, 8] + sum(wanted, []))


class NoTextOfDots(unittest.TestCase):
    def refuses(self, text):
        with self.subTest(text=text[:60]):
            self.assertEqual(read(text), [-4])

    def test_nothing_at_all(self):
        self.refuses(b"")

    def test_empty_lines(self):
        self.refuses(b"\n")
        self.refuses(b"\n\n")
        self.refuses(LINE + b"\n")
        self.refuses(b"\n" + LINE)
        self.refuses(LINE + b"\n" + LINE)

    def test_cut_off(self):
        text = LINE * 3
        self.assertEqual(read(text)[:3], [0, 4, 12])
        for many in range(len(text)):
            if many % len(LINE):
                self.refuses(text[:many])
                self.assertEqual(read(text[many:]), second_reading(text[many:]))

    def test_something_behind_or_before(self):
        for more in (b"\n", b" ", b"\r", b"\x00", CELL, CELL + b"\n", b"\xe2", b"\xe2\xa0", b"\x1b[0m"):
            self.refuses(LINE + more)
            if more != CELL:
                self.refuses(more + LINE)

    def test_a_line_feed_that_lacks_or_is_too_much(self):
        self.refuses(LINE[:-1])
        self.refuses(LINE + LINE[:-1])
        self.refuses(LINE[:-1] + LINE + LINE)
        self.refuses(CELL + b"\n" + LINE)
        self.refuses(LINE[:1] + b"\n" + LINE[1:])
        self.refuses(LINE[:2] + b"\n" + LINE[2:])

    def test_every_byte_at_each_place_of_a_cell(self):
        ranges = [range(0xE2, 0xE3), range(0xA0, 0xA4), range(0x80, 0xC0)]
        for place in range(3):
            for byte in range(256):
                cell = bytearray(CELL)
                cell[place] = byte
                text = bytes(cell) + b"\n"
                wanted = 0 if byte in ranges[place] else -4
                self.assertEqual(desk.undots(list(text))[0], wanted, text)

    def test_lines_of_different_widths(self):
        self.refuses(CELL + b"\n" + CELL * 2 + b"\n")
        self.refuses(CELL * 2 + b"\n" + CELL + b"\n")
        self.refuses(LINE * 5 + CELL * 3 + b"\n" + LINE)

    def test_too_wide(self):
        self.assertEqual(read(CELL * 512 + b"\n")[:3], [0, 1024, 4])
        self.refuses(CELL * 513 + b"\n")

    def test_too_high(self):
        self.assertEqual(read((CELL + b"\n") * 256)[:3], [0, 2, 1024])
        self.refuses((CELL + b"\n") * 257)

    def test_too_many_points(self):
        for wide, lines in ((512, 16), (128, 64), (32, 256)):
            self.assertEqual(read((CELL * wide + b"\n") * lines)[:3], [0, wide * 2, lines * 4])
        for wide, lines in ((512, 17), (128, 65), (129, 64), (33, 256), (512, 256), (91, 91)):
            self.refuses((CELL * wide + b"\n") * lines)

    def test_too_many_points_though_a_lesser_sheet_is_told_so(self):
        # 331 by 197 points will do, but the text has room for 332 by 200.
        text = text_of(desk.dots(331, 197, 1, 0, [0] * (331 * 197)))
        self.refuses(text)

    def test_the_longest_texts(self):
        self.refuses(CELL * 33333 + b"\n")
        self.refuses(b"\n" * 100000)
        self.refuses((CELL + b"\n") * 25000)
        self.refuses(b"\xe2" * 100000)
        self.refuses((CELL * (MOST // 3)).ljust(MOST, b"\n"))


class Held(unittest.TestCase):
    def test_spoiled_texts_against_a_second_reading(self):
        chance = random.Random(9)
        read_back = 0
        for _ in range(3000):
            wide, lines = chance.randrange(1, 4), chance.randrange(1, 4)
            line = [cells(*[chance.randrange(256) for _ in range(wide)]) + b"\n" for _ in range(lines)]
            text = b"".join(line)
            for _ in range(chance.randrange(3)):
                at = chance.randrange(len(text) + 1)
                more = chance.choice([b"", b"\n", b"\xe2", cells(7), cells(7) + b"\n", bytes([chance.randrange(256)])])
                text = text[:at] + more + text[at + chance.choice([0, 0, 1, 3]):]
            wanted = second_reading(text)
            read_back += wanted[0] == 0
            self.assertEqual(desk.undots(list(text)), wanted, text)
        self.assertTrue(1000 < read_back < 2900, read_back)


class OutOfRange(unittest.TestCase):
    def refuses(self, numbers):
        self.assertEqual(called(desk.undots, numbers), [-8])

    def test_something_above_255(self):
        line = list(LINE)
        for over in (256, 266, 300):
            for at in range(len(line)):
                self.refuses(line[:at] + [over] + line[at + 1:])
            self.refuses(line + [over])

    def test_also_where_it_is_no_text_of_dots(self):
        self.refuses([256])
        self.refuses([0, 300])
        self.refuses([10, 10, 256])
        self.refuses([1] * 99999 + [256])
        self.refuses(list(CELL * 600) + [256])

    def test_too_many_bytes(self):
        self.refuses([0] * (MOST + 1))
        self.assertEqual(desk.undots([0] * MOST), [-4])


if __name__ == "__main__":
    unittest.main()
