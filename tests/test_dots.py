"""Point 3 of DOC.md: dots."""

import unittest

from helper import OVER, TOO_SMALL_OR_GREAT, called, second_dots, some_numbers, text_of
from shownback import desk

TABLE = [[0, 8, 2, 10], [12, 4, 14, 6], [3, 11, 1, 9], [15, 7, 13, 5]]
# What each point of a cell has, by its line and column.
WORTH = [[1, 8], [2, 16], [4, 32], [64, 128]]


def told(wide, high, turned, numbers):
    return text_of(called(desk.dots, wide, high, 1, turned, numbers))


class Points(unittest.TestCase):
    def test_each_place_of_the_table_at_its_edge(self):
        for y in range(4):
            for x in range(4):
                edge = 4096 * TABLE[y][x] + 2048
                worth = WORTH[y][x % 2]
                for number, on in ((edge, True), (edge - 1, False), (edge + 1, True), (0, False), (65535, True)):
                    numbers = [0] * 16
                    numbers[y * 4 + x] = number
                    cells = [0, 0]
                    cells[x // 2] = worth if on else 0
                    with self.subTest(x=x, y=y, number=number):
                        wanted = "".join(chr(0x2800 + cell) for cell in cells) + "\n"
                        self.assertEqual(told(4, 4, 0, numbers).decode(), wanted)
                        cells[x // 2] = 255 - cells[x // 2]
                        cells[1 - x // 2] = 255
                        wanted = "".join(chr(0x2800 + cell) for cell in cells) + "\n"
                        self.assertEqual(told(4, 4, 1, numbers).decode(), wanted)

    def test_the_table_goes_on_by_rests_of_four(self):
        for y in range(9):
            for x in range(9):
                edge = 4096 * TABLE[y % 4][x % 4] + 2048
                numbers = [0] * 81
                numbers[y * 9 + x] = edge
                on = told(9, 9, 0, numbers)
                self.assertNotEqual(on, told(9, 9, 0, [0] * 81))
                numbers[y * 9 + x] = edge - 1
                self.assertEqual(told(9, 9, 0, numbers), told(9, 9, 0, [0] * 81))

    def test_the_bytes_of_a_cell(self):
        for total in range(256):
            numbers = [65535 if total & WORTH[y][x] else 0 for y in range(4) for x in range(2)]
            wanted = [4, 0xE2, 0xA0 + total // 64, 0x80 + total % 64, 10]
            self.assertEqual(called(desk.dots, 2, 4, 1, 0, numbers), wanted)


class Edges(unittest.TestCase):
    def test_a_point_alone(self):
        self.assertEqual(told(1, 1, 0, [2048]), b"\xe2\xa0\x81\n")
        self.assertEqual(told(1, 1, 0, [2047]), b"\xe2\xa0\x80\n")
        self.assertEqual(told(1, 1, 1, [2048]), b"\xe2\xa0\x80\n")
        self.assertEqual(told(1, 1, 1, [2047]), b"\xe2\xa0\x81\n")

    def test_points_past_the_edges_are_off(self):
        for wide in range(1, 6):
            for high in range(1, 10):
                wanted = "".join(
                    "".join(chr(0x2800 + sum(WORTH[y][x] for y in range(4) for x in range(2)
                                             if left + x < wide and top + y < high))
                            for left in range(0, wide, 2)) + "\n" for top in range(0, high, 4)).encode()
                with self.subTest(wide=wide, high=high):
                    self.assertEqual(told(wide, high, 0, [65535] * (wide * high)), wanted)
                    self.assertEqual(told(wide, high, 1, [0] * (wide * high)), wanted)

    def test_a_line_alone_and_a_column_alone(self):
        self.assertEqual(told(3, 1, 0, [65535] * 3).decode(), "\u2809\u2801\n")
        self.assertEqual(told(1, 5, 0, [65535] * 5).decode(), "\u2847\n\u2801\n")


class Held(unittest.TestCase):
    def test_against_a_second_telling(self):
        sizes = [(1, 1), (2, 4), (3, 5), (4, 8), (7, 6), (8, 7), (16, 16), (33, 1), (1, 33), (1024, 3), (3, 1024)]
        for seed, (wide, high) in enumerate(sizes):
            for turned in (0, 1):
                with self.subTest(wide=wide, high=high, turned=turned):
                    numbers = some_numbers(seed, wide * high)
                    self.assertEqual(told(wide, high, turned, numbers), second_dots(wide, high, turned, numbers))

    def test_as_many_numbers_as_may_be(self):
        for turned in (0, 1):
            numbers = some_numbers(turned, 58000)
            self.assertEqual(told(250, 232, turned, numbers), second_dots(250, 232, turned, numbers))

    def test_the_greatest_sheets(self):
        for wide, high in ((1024, 64), (64, 1024), (256, 256)):
            numbers = some_numbers(wide, 65536)
            self.assertEqual(told(wide, high, 0, numbers), second_dots(wide, high, 0, numbers))


class Refused(unittest.TestCase):
    def refuses(self, *handed):
        self.assertEqual(called(desk.dots, *handed), [-8])

    def test_the_size(self):
        for wide, high in TOO_SMALL_OR_GREAT:
            with self.subTest(wide=wide, high=high):
                self.refuses(wide, high, 1, 0, [0] * (wide * high))
        self.refuses(OVER, 1, 1, 0, [0])
        self.refuses(1, OVER, 1, 0, [0])

    def test_the_channels(self):
        for channels in (0, 2, 3, 4, 5):
            self.refuses(2, 2, channels, 0, [0] * (4 * channels))
            self.refuses(2, 2, channels, 0, [0] * 4)
        self.refuses(1, 1, OVER, 0, [0])

    def test_turned(self):
        for turned in (2, 3, 255, OVER):
            self.refuses(1, 1, 1, turned, [0])

    def test_a_number(self):
        for place in range(4):
            for over in (65536, 70000):
                self.refuses(2, 2, 1, 0, [0] * place + [over] + [0] * (3 - place))

    def test_how_many_numbers(self):
        for many in (0, 5, 7, 12):
            self.refuses(2, 3, 1, 0, [0] * many)
            self.refuses(2, 3, 1, 1, [0] * many)


if __name__ == "__main__":
    unittest.main()
