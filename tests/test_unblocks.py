"""Point 2 of DOC.md: unblocks."""

import random
import re
import unittest

from helper import END, HALF, called, lower, second_blocks, some_numbers, text_of, upper
from shownback import desk

RED = (255, 0, 10)
BLUE = (0, 9, 100)
CELL = upper(*RED) + lower(*BLUE) + HALF
LINE = CELL + END
MOST = 2097152


def read(text):
    return called(desk.unblocks, list(text))


def second_reading(text):
    """Read as loosely as can be, then told again: it is a text of blocks if it comes out the same."""
    three = rb"(\d{1,4});(\d{1,4});(\d{1,4})m"
    cell = re.compile(rb"(?:\x1b\[38;2;" + three + rb")?(?:\x1b\[48;2;" + three + rb")?" + HALF)
    rows = []
    for line in text.split(END)[:-1]:
        above, below = [(0, 0, 0)], [(0, 0, 0)]
        for found in cell.finditer(line):
            above.append(tuple(map(int, found.group(1, 2, 3))) if found.group(1) else above[-1])
            below.append(tuple(map(int, found.group(4, 5, 6))) if found.group(4) else below[-1])
        rows += [above[1:], below[1:]]
    wide, high = len(rows[0]) if rows else 0, len(rows)
    colours = [colour for row in rows for point in row for colour in point]
    fits = 1 <= wide <= 1024 and 1 <= high <= 1024 and wide * high <= 65536 and all(c <= 255 for c in colours)
    if not fits or any(len(row) != wide for row in rows):
        return [-4]
    if second_blocks(wide, high, 3, (0, 0, 0), [colour * 256 for colour in colours]) != text:
        return [-4]
    return [0, wide, high] + colours


class ReadBack(unittest.TestCase):
    def test_a_line_by_hand(self):
        text = upper(1, 2, 3) + lower(4, 5, 6) + HALF + HALF + lower(7, 8, 255) + HALF + END
        points = [1, 2, 3] * 3 + [4, 5, 6, 4, 5, 6, 7, 8, 255]
        self.assertEqual(read(text), [0, 3, 2] + points)

    def test_two_lines_by_hand(self):
        text = upper(1, 2, 3) + lower(4, 5, 6) + HALF + END + upper(1, 2, 3) + lower(0, 10, 200) + HALF + END
        self.assertEqual(read(text), [0, 1, 4, 1, 2, 3, 4, 5, 6, 1, 2, 3, 0, 10, 200])

    def test_every_colour(self):
        for colour in range(256):
            text = upper(colour, 0, 255) + lower(0, colour, colour) + HALF + END
            self.assertEqual(read(text), [0, 1, 2, colour, 0, 255, 0, colour, colour])

    def test_what_blocks_tells_on_any_ground(self):
        sizes = [(1, 2), (2, 2), (5, 4), (8, 6), (1, 30), (31, 2), (1024, 2), (2, 1024)]
        for seed, (wide, high) in enumerate(sizes):
            for choices in (None, [0, 65535], [300, 301, 600]):
                for ground in ((0, 0, 0), (255, 255, 255), (1, 20, 255)):
                    with self.subTest(wide=wide, high=high, choices=choices, ground=ground):
                        numbers = some_numbers(seed, wide * high * 3, choices)
                        text = text_of(desk.blocks(wide, high, 3, *ground, numbers))
                        self.assertEqual(read(text), [0, wide, high] + [number // 256 for number in numbers])

    def test_other_sheets_show_as_sheets_of_three_channels(self):
        text = text_of(desk.blocks(1, 1, 2, 10, 20, 30, [65535, 0]))
        self.assertEqual(read(text), [0, 1, 2, 10, 20, 30, 10, 20, 30])

    def test_the_greatest_sheets(self):
        for wide, lines in ((1024, 32), (64, 512), (256, 128)):
            text = (upper(1, 2, 3) + lower(4, 5, 6) + HALF * wide + END) * lines
            self.assertEqual(read(text), [0, wide, lines * 2] + ([1, 2, 3] * wide + [4, 5, 6] * wide) * lines)

    def test_as_many_bytes_as_may_be(self):
        line = upper(100, 100, 100) + lower(2, 2, 20) + HALF * 154 + END
        self.assertEqual(len(line) * 200, 100000)
        self.assertEqual(read(line * 200), [0, 154, 400] + ([100, 100, 100] * 154 + [2, 2, 20] * 154) * 200)


class NoTextOfBlocks(unittest.TestCase):
    def refuses(self, text):
        with self.subTest(text=text[:120]):
            self.assertEqual(read(text), [-4])

    def test_nothing_at_all(self):
        self.refuses(b"")

    def test_no_cells(self):
        self.refuses(END)
        self.refuses(END + END)
        self.refuses(LINE + END)
        self.refuses(upper(*RED) + lower(*BLUE) + END)
        self.refuses(b"\n")

    def test_cut_off(self):
        text = CELL + upper(1, 1, 1) + HALF + lower(1, 1, 1) + HALF + END
        text += text
        self.assertEqual(read(text)[0], 0)
        for many in range(len(text)):
            if many != len(text) // 2:
                self.refuses(text[:many])

    def test_cut_off_in_front(self):
        for many in range(1, len(LINE)):
            self.refuses(LINE[many:])

    def test_something_behind(self):
        for more in (b"\n", b" ", b"\x1b", b"\x1b[0m", b"0", HALF, CELL, END, b"\x00"):
            self.refuses(LINE + more)
            self.refuses(more + LINE)

    def test_one_byte_left_out_or_doubled(self):
        text = CELL + upper(11, 12, 13) + HALF + END
        for at in range(len(text)):
            left_out = read(text[:at] + text[at + 1:])
            doubled = read(text[:at + 1] + text[at:])
            if text[at] not in b"0123456789":
                self.assertEqual((left_out, doubled), ([-4], [-4]), at)

    def test_one_byte_otherwise(self):
        for at in range(len(LINE)):
            for other in (0, 10, 27, 32, 47, 58, 59, 91, 109, 128, 226, 255):
                if LINE[at] != other:
                    self.refuses(LINE[:at] + bytes([other]) + LINE[at + 1:])

    def test_told_but_need_not_be(self):
        self.refuses(CELL + upper(*RED) + HALF + END)
        self.refuses(CELL + lower(*BLUE) + HALF + END)
        self.refuses(CELL + CELL + END)
        self.refuses(CELL + HALF + HALF + upper(*RED) + HALF + END)
        self.refuses(CELL + upper(1, 1, 1) + HALF + lower(*BLUE) + HALF + END)

    def test_told_twice_or_for_no_cell(self):
        self.refuses(upper(1, 1, 1) + upper(*RED) + lower(*BLUE) + HALF + END)
        self.refuses(upper(*RED) + lower(1, 1, 1) + lower(*BLUE) + HALF + END)
        self.refuses(CELL + upper(1, 1, 1) + END)
        self.refuses(CELL + lower(1, 1, 1) + END)

    def test_lower_before_upper(self):
        self.refuses(lower(*BLUE) + upper(*RED) + HALF + END)
        self.refuses(CELL + lower(1, 1, 1) + upper(1, 1, 1) + HALF + END)

    def test_one_lacks(self):
        self.refuses(lower(*BLUE) + HALF + END)
        self.refuses(upper(*RED) + HALF + END)
        self.refuses(HALF + END)
        self.refuses(LINE + HALF + END)
        self.refuses(LINE + upper(*RED) + HALF + END)
        self.refuses(LINE + lower(*BLUE) + HALF + END)

    def test_numbers(self):
        for number in (b"", b"00", b"01", b"007", b"010", b"0255", b"256", b"260", b"300", b"999", b"1000", b"2550",
                       b"-1", b"+1", b" 1", b"1 ", b"1.", b"a", b"18446744073709551617", b"0" * 5000, b"9" * 5000):
            for place in range(3):
                three = b";".join([b"1"] * place + [number] + [b"1"] * (2 - place))
                self.refuses(b"\x1b[38;2;" + three + b"m" + lower(*BLUE) + HALF + END)
                self.refuses(upper(*RED) + b"\x1b[48;2;" + three + b"m" + HALF + END)

    def test_how_many_numbers(self):
        for three in (b"", b"1", b"1;1", b"1;1;", b"1;1;1;", b"1;1;1;1", b";1;1;1", b"1;;1;1"):
            self.refuses(b"\x1b[38;2;" + three + b"m" + lower(*BLUE) + HALF + END)
            self.refuses(upper(*RED) + b"\x1b[48;2;" + three + b"m" + HALF + END)

    def test_lines_of_different_widths(self):
        self.refuses(LINE + CELL + HALF + END)
        self.refuses(CELL + HALF + END + LINE)
        self.refuses(LINE + LINE + CELL + HALF + END + LINE)

    def test_too_wide(self):
        self.assertEqual(read(CELL + HALF * 1023 + END)[:3], [0, 1024, 2])
        self.refuses(CELL + HALF * 1024 + END)

    def test_too_high(self):
        self.assertEqual(read(LINE * 512)[:3], [0, 1, 1024])
        self.refuses(LINE * 513)

    def test_too_many_points(self):
        for wide, lines in ((331, 99), (1024, 33), (65, 512), (257, 128), (1024, 512)):
            self.refuses((CELL + HALF * (wide - 1) + END) * lines)

    def test_a_lower_one_may_not_lack_where_more_lines_come(self):
        self.refuses(upper(*RED) + HALF + END + LINE)

    def test_the_longest_texts(self):
        self.refuses(b"\x1b" * 100000)
        self.refuses(LINE * (100000 // len(LINE)))
        self.refuses(HALF * 33333)
        self.refuses((CELL + HALF * ((MOST - len(LINE)) // 3) + END).ljust(MOST, b"\n"))
        self.refuses(b"\x1b[38;2;" + b"0" * (MOST - 7))


class Held(unittest.TestCase):
    def test_spoiled_texts_against_a_second_reading(self):
        chance = random.Random(4)
        pieces = [upper(1, 1, 1), upper(1, 2, 1), lower(1, 1, 1), lower(25, 1, 1), HALF, END, b"0", b"2", b"5", b"\x1b"]
        read_back = 0
        for seed in range(3000):
            wide, high = chance.choice([(1, 2), (2, 2), (3, 2), (2, 4), (1, 6)])
            numbers = some_numbers(seed, wide * high * 3, [0, 256, 25 * 256])
            text = second_blocks(wide, high, 3, (0, 0, 0), numbers)
            for _ in range(chance.randrange(3)):
                at = chance.randrange(len(text) + 1)
                if chance.randrange(2):
                    text = text[:at] + text[at + chance.choice([0, 1, 3, 13]):]
                text = text[:at] + chance.choice(pieces + [b""]) + text[at:]
            wanted = second_reading(text)
            read_back += wanted[0] == 0
            self.assertEqual(desk.unblocks(list(text)), wanted, text)
        self.assertTrue(1000 < read_back < 2900, read_back)

    def test_all_short_rows_of_pieces(self):
        pieces = [upper(1, 1, 1), upper(2, 2, 2), lower(1, 1, 1), lower(2, 2, 2), HALF, END]
        texts = [b""]
        for _ in range(6):
            texts = [text + piece for text in texts for piece in pieces]
            for text in texts:
                self.assertEqual(desk.unblocks(list(text)), second_reading(text), text)


class OutOfRange(unittest.TestCase):
    def refuses(self, numbers):
        self.assertEqual(called(desk.unblocks, numbers), [-8])

    def test_a_byte_above_255(self):
        line = list(LINE)
        for over in (256, 257, 300):
            for at in range(len(line)):
                self.refuses(line[:at] + [over] + line[at + 1:])
            self.refuses(line + [over])

    def test_also_where_it_is_no_text_of_blocks(self):
        self.refuses([256])
        self.refuses([0, 300])
        self.refuses(list(LINE * 513) + [256])
        self.refuses([1] * 99999 + [256])
        self.refuses([65] + list(LINE) + [256])

    def test_too_many_bytes(self):
        self.refuses([0] * (MOST + 1))
        self.assertEqual(desk.unblocks([0] * MOST), [-4])


if __name__ == "__main__":
    unittest.main()
