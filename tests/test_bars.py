"""Point 5 of DOC.md: bars."""

import unittest

from helper import OVER, called, second_bars, some_samples, stacked, text_of
from shownback import desk


def told(columns, lines, samples, rate=8000):
    return text_of(called(desk.bars, rate, columns, lines, samples))


def least_size(height, lines):
    """The least size of which a column is that high."""
    return next(size for size in range(32769) if (size * 8 * lines + 16384) // 32768 == height)


class Heights(unittest.TestCase):
    def test_the_bytes_as_they_are_written_out(self):
        answer = desk.bars(1, 3, 2, [-32768, 0, 8192])
        line = [226, 150, 136, 32, 32, 10, 226, 150, 136, 32, 226, 150, 132, 10]
        self.assertEqual(answer, [14] + line)

    def test_one_sample(self):
        self.assertEqual(told(1, 1, [0]), b" \n")
        self.assertEqual(told(1, 1, [2047]), b" \n")
        self.assertEqual(told(1, 1, [2048]), b"\xe2\x96\x81\n")
        self.assertEqual(told(1, 1, [-2048]), b"\xe2\x96\x81\n")
        self.assertEqual(told(1, 1, [32767]), b"\xe2\x96\x88\n")
        self.assertEqual(told(1, 1, [-32768]), b"\xe2\x96\x88\n")

    def test_the_least_sample_has_the_size_32768(self):
        full = b"\xe2\x96\x88\n"
        for lines in (1, 2, 3, 63, 64):
            self.assertEqual(told(1, lines, [-32768]), full * lines)
        self.assertEqual(told(1, 1, [-32768, 5]), full)
        # 32767 rounds up to as much in every room; the next lower edge is an eighth below.
        self.assertEqual(told(1, 64, [32767]), full * 64)

    def test_the_edges_of_each_eighth(self):
        for lines in (1, 2, 3, 5, 64):
            heights = range(1, 8 * lines + 1) if lines < 64 else (1, 2, 7, 8, 9, 255, 256, 257, 511, 512)
            for height in heights:
                edge = least_size(height, lines)
                for sign in (1, -1):
                    with self.subTest(lines=lines, height=height, sign=sign):
                        self.assertEqual(told(1, lines, [sign * edge]), stacked([height], lines))
                        self.assertEqual(told(1, lines, [sign * (edge - 1)]), stacked([height - 1], lines))

    def test_known_edges(self):
        # (size 8 lines + 16384) / 32768: with one line an eighth is 4096, and a half of that rounds up.
        for eighth in range(1, 9):
            self.assertEqual(told(1, 1, [4096 * eighth - 2048]), stacked([eighth], 1))
            self.assertEqual(told(1, 1, [4096 * eighth - 2049]), stacked([eighth - 1], 1))

    def test_full_and_empty_cells_in_several_lines(self):
        samples = [0, 4096, 8192, 16384, 20480, 32767]
        self.assertEqual(told(6, 1, samples).decode(), " \u2581\u2582\u2584\u2585\u2588\n")
        wanted = "     \u2588\n   \u2584\u2587\u2588\n \u2583\u2586\u2588\u2588\u2588\n"
        self.assertEqual(told(6, 3, samples).decode(), wanted)


class Columns(unittest.TestCase):
    def test_as_many_columns_as_samples(self):
        samples = [0, 2048, -8192, 32767, -32768, 12288, 1, -1]
        self.assertEqual(told(8, 1, samples), stacked([0, 1, 2, 8, 8, 3, 0, 0], 1))

    def test_all_samples_in_one_column(self):
        self.assertEqual(told(1, 1, [0, 100, -20480, 12288]), stacked([5], 1))

    def test_the_greatest_size_counts_below_0_too(self):
        self.assertEqual(told(2, 1, [4096, -8192, 12288, -4096]), stacked([2, 3], 1))

    def test_samples_that_are_not_equally_many(self):
        # Of 7 samples in 3 columns the columns begin at 0, 2 and 4.
        for place, column in enumerate([0, 0, 1, 1, 2, 2, 2]):
            samples = [0] * 7
            samples[place] = 20000
            heights = [0, 0, 0]
            heights[column] = 5
            self.assertEqual(told(3, 1, samples), stacked(heights, 1))
        # Of 5 samples in 4 columns they begin at 0, 1, 2 and 3.
        for place, column in enumerate([0, 1, 2, 3, 3]):
            samples = [0] * 5
            samples[place] = -20000
            heights = [0] * 4
            heights[column] = 5
            self.assertEqual(told(4, 1, samples), stacked(heights, 1))

    def test_every_sample_is_in_one_column(self):
        for many in (1, 2, 3, 10, 31):
            for columns in range(1, many + 1):
                for place in range(many):
                    samples = [0] * many
                    samples[place] = 32767
                    self.assertEqual(desk.bars(1, columns, 1, samples).count(0x88), 1)


class Held(unittest.TestCase):
    def test_against_a_second_telling(self):
        for seed, (many, columns) in enumerate([(1, 1), (2, 1), (2, 2), (10, 3), (100, 7), (513, 512), (700, 512)]):
            for lines in (1, 2, 5, 64):
                for most in (32767, 3000):
                    with self.subTest(many=many, columns=columns, lines=lines):
                        samples = some_samples(seed, many, most)
                        self.assertEqual(told(columns, lines, samples), second_bars(columns, lines, samples))

    def test_the_rate_changes_nothing(self):
        samples = some_samples(3, 50)
        for rate in (1, 44100, 1000000):
            self.assertEqual(told(10, 4, samples, rate), second_bars(10, 4, samples))

    def test_as_many_samples_as_may_be(self):
        for many in (60000, 65536):
            samples = some_samples(1, many, 20000)
            samples[many // 2] = -32768
            for columns, lines in ((1, 1), (7, 3), (512, 64)):
                self.assertEqual(told(columns, lines, samples), second_bars(columns, lines, samples))


class Refused(unittest.TestCase):
    def refuses(self, *handed):
        self.assertEqual(called(desk.bars, *handed), [-8])

    def test_the_rate(self):
        for rate in (0, 1000001, OVER):
            self.refuses(rate, 1, 1, [0])

    def test_the_columns(self):
        for columns in (0, 513, OVER):
            self.refuses(1, columns, 1, [0] * 600)
        self.refuses(1, 2, 1, [0])
        self.refuses(1, 11, 1, [0] * 10)
        self.refuses(1, 512, 64, [0] * 511)
        self.assertEqual(told(512, 1, [0] * 512), b" " * 512 + b"\n")

    def test_the_lines(self):
        for lines in (0, 65, OVER):
            self.refuses(1, 1, lines, [0])

    def test_how_many_samples(self):
        self.refuses(1, 1, 1, [])
        self.refuses(1, 0, 1, [])
        self.refuses(1, 1, 1, [0] * 65537)

    def test_a_sample(self):
        for over in (32768, 32769, 40000, -32769, -40000, 2 ** 63 - 1, -2 ** 63):
            self.refuses(1, 1, 1, [over])
            self.refuses(1, 2, 2, [0, over, 0])
            self.refuses(1, 1, 1, [0] * 59999 + [over])


if __name__ == "__main__":
    unittest.main()
