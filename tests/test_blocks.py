"""Point 1 of DOC.md: blocks."""

import unittest

from helper import END, HALF, OVER, TOO_SMALL_OR_GREAT, called, lower, second_blocks, some_numbers, text_of, upper
from shownback import desk


def told(wide, high, channels, ground, numbers):
    return text_of(called(desk.blocks, wide, high, channels, *ground, numbers))


class Cells(unittest.TestCase):
    def test_a_point_alone_has_the_ground_below(self):
        wanted = upper(0, 1, 255) + lower(7, 80, 255) + HALF + END
        self.assertEqual(told(1, 1, 3, (7, 80, 255), [0, 256, 65535]), wanted)

    def test_the_bytes_as_they_are_written_out(self):
        answer = desk.blocks(1, 2, 3, 0, 0, 0, [2560, 25600, 0, 255, 511, 512])
        line = [27, 91, 51, 56, 59, 50, 59, 49, 48, 59, 49, 48, 48, 59, 48, 109]
        line += [27, 91, 52, 56, 59, 50, 59, 48, 59, 49, 59, 50, 109]
        line += [226, 150, 128, 27, 91, 48, 109, 10]
        self.assertEqual(answer, [len(line)] + line)

    def test_bright_is_cut_off(self):
        wanted = upper(0, 0, 1) + lower(254, 255, 255) + HALF + END
        self.assertEqual(told(1, 2, 3, (9, 9, 9), [0, 255, 256, 65279, 65280, 65535]), wanted)

    def test_grey_is_thrice_the_same(self):
        self.assertEqual(told(1, 2, 1, (1, 2, 3), [1000, 65535]), upper(3, 3, 3) + lower(255, 255, 255) + HALF + END)

    def test_grey_with_cover_on_a_ground(self):
        # 200 and 100 on 10, 20, 30: (200 c + g (255 - c) + 127) / 255, cut off
        numbers = [200 * 256 + 255, 128 * 256, 100 * 256, 1 * 256 + 77]
        self.assertEqual(told(1, 2, 2, (10, 20, 30), numbers), upper(105, 110, 115) + lower(10, 20, 30) + HALF + END)

    def test_colours_with_cover_on_a_ground(self):
        numbers = [50 * 256, 100 * 256, 150 * 256, 64 * 256 + 255, 50 * 256, 100 * 256, 150 * 256, 191 * 256]
        wanted = upper(203, 29, 187) + lower(101, 76, 163) + HALF + END
        self.assertEqual(told(1, 2, 4, (254, 5, 200), numbers), wanted)

    def test_no_cover_and_full_cover(self):
        numbers = [5 * 256, 6 * 256, 7 * 256, 255, 5 * 256, 6 * 256, 7 * 256, 65280]
        self.assertEqual(told(1, 2, 4, (1, 2, 3), numbers), upper(1, 2, 3) + lower(5, 6, 7) + HALF + END)

    def test_halves_are_rounded_up(self):
        # 1 * 127 + 127 is one less than 255, 1 * 128 + 127 is 255 itself
        self.assertEqual(told(1, 1, 2, (0, 0, 0), [256, 127 * 256]), upper(0, 0, 0) + lower(0, 0, 0) + HALF + END)
        self.assertEqual(told(1, 1, 2, (0, 0, 0), [256, 128 * 256]), upper(1, 1, 1) + lower(0, 0, 0) + HALF + END)


class Telling(unittest.TestCase):
    def test_the_same_colours_are_not_told_again(self):
        wanted = upper(1, 1, 1) + lower(2, 2, 2) + HALF * 3 + END
        self.assertEqual(told(3, 2, 1, (0, 0, 0), [256, 300, 511, 512, 600, 767]), wanted)

    def test_upper_and_lower_each_for_itself(self):
        numbers = [256, 256, 512, 512, 256, 512, 512, 256]
        wanted = upper(1, 1, 1) + lower(1, 1, 1) + HALF + lower(2, 2, 2) + HALF
        wanted += upper(2, 2, 2) + HALF + lower(1, 1, 1) + HALF + END
        self.assertEqual(told(4, 2, 1, (0, 0, 0), numbers), wanted)

    def test_only_what_was_told_last_counts(self):
        wanted = upper(1, 1, 1) + lower(0, 0, 0) + HALF + upper(2, 2, 2) + HALF + upper(1, 1, 1) + HALF + END
        self.assertEqual(told(3, 1, 1, (0, 0, 0), [256, 512, 256]), wanted)

    def test_one_colour_of_three_is_enough(self):
        numbers = [256, 512, 768, 256, 512, 1024, 256, 0, 1024, 0, 0, 1024]
        wanted = upper(1, 2, 3) + lower(9, 9, 9) + HALF + upper(1, 2, 4) + HALF
        wanted += upper(1, 0, 4) + HALF + upper(0, 0, 4) + HALF + END
        self.assertEqual(told(4, 1, 3, (9, 9, 9), numbers), wanted)

    def test_anew_in_each_line(self):
        line = upper(1, 1, 1) + lower(1, 1, 1) + HALF * 2 + END
        self.assertEqual(told(2, 4, 1, (0, 0, 0), [256] * 8), line * 2)

    def test_covers_that_show_the_same_are_told_once(self):
        numbers = [0, 0, 65535, 0, 9 * 256, 65535]
        self.assertEqual(told(3, 1, 2, (9, 9, 9), numbers), upper(9, 9, 9) + lower(9, 9, 9) + HALF * 3 + END)

    def test_high_is_odd(self):
        wanted = upper(1, 1, 1) + lower(2, 2, 2) + HALF + END + upper(3, 3, 3) + lower(4, 5, 6) + HALF + END
        self.assertEqual(told(1, 3, 1, (4, 5, 6), [256, 512, 768]), wanted)

    def test_a_line_alone_and_a_column_alone(self):
        line = told(5, 1, 1, (0, 0, 0), [0, 256, 512, 768, 1024])
        self.assertEqual((line.count(END), line.count(HALF)), (1, 5))
        column = told(1, 5, 1, (0, 0, 0), [0, 256, 512, 768, 1024])
        self.assertEqual((column.count(END), column.count(HALF)), (3, 3))


class Held(unittest.TestCase):
    def test_against_a_second_telling(self):
        for seed, (wide, high) in enumerate([(1, 1), (1, 2), (2, 1), (3, 4), (4, 3), (7, 5), (9, 8), (1, 31), (32, 1)]):
            for channels in (1, 2, 3, 4):
                for choices in (None, [0, 255, 256, 65535], [0, 30000]):
                    with self.subTest(wide=wide, high=high, channels=channels, choices=choices):
                        numbers = some_numbers(seed, wide * high * channels, choices)
                        ground = [number // 256 for number in some_numbers(seed + 100, 3)]
                        wanted = second_blocks(wide, high, channels, ground, numbers)
                        self.assertEqual(told(wide, high, channels, ground, numbers), wanted)

    def test_every_number_with_every_cover(self):
        for ground in ((0, 0, 0), (255, 255, 255), (1, 127, 254)):
            numbers = [part * 256 for grey in range(256) for cover in range(0, 256, 5) for part in (grey, cover)]
            wanted = second_blocks(256, 52, 2, ground, numbers)
            self.assertEqual(text_of(desk.blocks(256, 52, 2, *ground, numbers)), wanted)


class Longest(unittest.TestCase):
    def test_as_many_numbers_as_may_be(self):
        for wide, high, channels in ((250, 232, 1), (290, 100, 2), (179, 108, 3), (145, 100, 4)):
            numbers = some_numbers(channels, wide * high * channels, [0, 0, 0, 0, 65535])
            wanted = second_blocks(wide, high, channels, (1, 2, 3), numbers)
            self.assertEqual(told(wide, high, channels, (1, 2, 3), numbers), wanted)

    def test_the_greatest_sheets(self):
        line = upper(0, 0, 0) + lower(0, 0, 0) + HALF * 1024 + END
        self.assertEqual(told(1024, 64, 1, (0, 0, 0), [0] * 65536), line * 32)
        line = upper(0, 0, 0) + lower(0, 0, 0) + HALF * 64 + END
        self.assertEqual(told(64, 1024, 4, (0, 0, 0), [0] * 262144), line * 512)


class Refused(unittest.TestCase):
    def refuses(self, *handed):
        self.assertEqual(called(desk.blocks, *handed), [-8])

    def test_the_size(self):
        for wide, high in TOO_SMALL_OR_GREAT:
            with self.subTest(wide=wide, high=high):
                self.refuses(wide, high, 1, 0, 0, 0, [0] * (wide * high))
        self.refuses(OVER, 1, 1, 0, 0, 0, [0])
        self.refuses(1, OVER, 1, 0, 0, 0, [0])
        self.refuses(OVER, OVER, 1, 0, 0, 0, [])

    def test_the_channels(self):
        for channels in (0, 5, 6, OVER):
            self.refuses(1, 1, channels, 0, 0, 0, [0] * min(channels, 6))

    def test_the_ground(self):
        for over in (256, 257, OVER):
            self.refuses(1, 1, 1, over, 0, 0, [0])
            self.refuses(1, 1, 1, 0, over, 0, [0])
            self.refuses(1, 1, 1, 0, 0, over, [0])
            self.refuses(1, 2, 3, 0, 0, over, [0] * 6)
        self.assertEqual(told(1, 1, 1, (255, 255, 255), [0]), upper(0, 0, 0) + lower(255, 255, 255) + HALF + END)

    def test_a_number(self):
        for place in range(4):
            for over in (65536, 70000):
                self.refuses(2, 2, 1, 0, 0, 0, [0] * place + [over] + [0] * (3 - place))
        self.refuses(1, 1, 4, 0, 0, 0, [0, 0, 0, 65536])

    def test_how_many_numbers(self):
        for channels in (1, 2, 3, 4):
            for more in (-1, 1, channels, -channels):
                self.refuses(2, 3, channels, 0, 0, 0, [0] * (6 * channels + more))
        self.refuses(1, 1, 1, 0, 0, 0, [])


if __name__ == "__main__":
    unittest.main()
