"""Point 11 of DOC.md: still, with the sum, the pieces, numbers kept and lines guessed."""

import struct
import unittest

from helper import DONE, OVER, TOO_SMALL_OR_GREAT, called, cut, second_kept, second_still, second_sum, some_numbers
from helper import piece, text_of
from shownback import desk


def told(wide, high, channels, numbers):
    return text_of(called(desk.still, wide, high, channels, numbers))


def lines_of(wide, high, channels, numbers):
    """What stands in the pieces LINE."""
    pieces = cut(told(wide, high, channels, numbers))
    assert pieces[0] == (b"HEAD", struct.pack("<HHB", wide, high, channels)) and pieces[-1] == (b"DONE", b"")
    assert [letters for letters, _ in pieces[1:-1]] == [b"LINE"] * high
    return [list(content) for _, content in pieces[1:-1]]


class Files(unittest.TestCase):
    def test_the_bytes_as_they_are_written_out(self):
        wanted = [72, 69, 65, 68, 5, 0, 0, 0, 2, 0, 2, 0, 1, 33, 47, 1, 190]
        wanted += [76, 73, 78, 69, 3, 0, 0, 0, 1, 65, 65, 100, 135, 242, 249]
        wanted += [76, 73, 78, 69, 3, 0, 0, 0, 4, 67, 65, 238, 129, 40, 229]
        wanted += [68, 79, 78, 69, 0, 0, 0, 0, 135, 222, 52, 118]
        self.assertEqual(called(desk.still, 2, 2, 1, [1, 2, 3, 4]), [59] + wanted)

    def test_the_second_reckoning_of_the_sum(self):
        self.assertEqual(second_sum(b"123456789"), 3808858755)

    def test_each_sum_is_of_letters_length_and_bytes(self):
        data = told(3, 2, 2, some_numbers(1, 12))
        at = 0
        for _ in range(4):
            behind = at + 8 + struct.unpack("<I", data[at + 4:at + 8])[0]
            self.assertEqual(struct.unpack("<I", data[behind:behind + 4])[0], second_sum(data[at:behind]))
            at = behind + 4
        self.assertEqual(at, len(data))

    def test_one_point(self):
        for channels in (1, 2, 3, 4):
            numbers = [5, 0, 40000, 1][:channels]
            content = bytes([0]) + second_kept([5, 0, 40000 - 65536, 1][:channels])
            wanted = piece(b"HEAD", bytes([1, 0, 1, 0, channels])) + piece(b"LINE", content) + DONE
            self.assertEqual(told(1, 1, channels, numbers), wanted)

    def test_the_head(self):
        data = told(1024, 3, 1, [0] * 3072)
        self.assertEqual(cut(data)[0], (b"HEAD", bytes([0, 4, 3, 0, 1])))
        data = told(3, 258, 2, [0] * 1548)
        self.assertEqual(cut(data)[0], (b"HEAD", bytes([3, 0, 2, 1, 2])))


class Kept(unittest.TestCase):
    def test_the_edges_of_each_way(self):
        for number, wanted in ((0, [0]), (65535, [64]), (1, [65]), (32, [127]), (65536 - 32, [126]),
                               (65536 - 33, [128, 0]), (33, [128, 1]), (65536 - 161, [129, 0]), (160, [128, 255]),
                               (8224, [191, 255]), (65536 - 8224, [191, 254]), (65536 - 8225, [192, 65, 64]),
                               (8225, [192, 66, 64]), (32767, [192, 254, 255]), (32768, [192, 255, 255])):
            with self.subTest(number=number):
                self.assertEqual(lines_of(1, 1, 1, [number]), [[0] + wanted])

    def test_many_numbers(self):
        # The guess of one point alone is 0.
        for number in range(0, 65536, 7):
            content = cut(text_of(desk.still(1, 1, 1, [number])))[1][1]
            self.assertEqual(content, b"\0" + second_kept([number - 65536 if number > 32767 else number]))

    def test_noughts(self):
        for many, wanted in ((1, [0]), (2, [1]), (63, [62]), (64, [63]), (65, [63, 0]), (100, [63, 35]),
                             (128, [63, 63]), (129, [63, 63, 0]), (1024, [63] * 16)):
            self.assertEqual(lines_of(many, 1, 1, [0] * many), [[0] + wanted])

    def test_noughts_before_between_and_behind(self):
        self.assertEqual(lines_of(4, 1, 1, [0, 0, 0, 9]), [[0, 2, 81]])
        # A step: only the first number is off its guess, the one before it.
        self.assertEqual(lines_of(4, 1, 1, [9, 9, 9, 9]), [[1, 81, 2]])
        self.assertEqual(lines_of(70, 1, 1, [0] * 66 + [1] + [0] * 3), [[0, 63, 1, 65, 2]])
        self.assertEqual(lines_of(67, 1, 1, [1] + [0] * 65 + [1]), [[0, 65, 63, 0, 65]])

    def test_noughts_do_not_go_on_into_the_next_line(self):
        self.assertEqual(lines_of(3, 3, 1, [0] * 9), [[0, 2]] * 3)


class Guesses(unittest.TestCase):
    def best(self, above, line, channels=1):
        return lines_of(len(line) // channels, 2, channels, above + line)[1]

    def test_nought(self):
        self.assertEqual(self.best([9, 9, 9, 9], [1, 0, 1, 0]), [0, 65, 0, 65, 0])

    def test_the_one_before(self):
        self.assertEqual(self.best([0, 90, 0, 90], [20, 20, 20, 21]), [1, 103, 1, 65])

    def test_the_one_above(self):
        self.assertEqual(self.best([20, 3, 30, 1], [21, 2, 31, 2]), [2, 65, 64, 65, 65])

    def test_half_of_both_together(self):
        # (0 + 1000) / 2, (500 + 3001) / 2 cut off, (1750 + 500) / 2, (1125 + 4000) / 2 cut off
        self.assertEqual(self.best([1000, 3001, 500, 4000], [500, 1750, 1125, 2562]), [3, 3])

    def test_the_one_in_the_middle(self):
        self.assertEqual(self.best([300, 200, 100], [350, 250, 150]), [4, 128, 35, 1])

    def test_the_middle_is_one_of_the_three(self):
        # a + b - c is as great as b; then above both, so b; then below both, so b; then between, so itself.
        self.assertEqual(self.best([100, 300, 250, 400], [200, 280, 240, 390]), [4, 128, 135, 102, 82, 0])

    def test_of_several_the_first(self):
        # All alike are guessed as well by 1 and 4 in the first line, by 2 and 4 below it.
        self.assertEqual(lines_of(3, 2, 1, [7] * 6), [[1, 77, 1], [2, 2]])
        # Noughts are guessed as well by all five.
        self.assertEqual(lines_of(3, 2, 1, [0] * 6), [[0, 2], [0, 2]])
        # In the first line 0 and 2 are the same, and one point alone is off by the same whatever the guess.
        self.assertEqual(lines_of(2, 1, 1, [0, 5]), [[0, 0, 73]])
        self.assertEqual(lines_of(1, 1, 1, [5]), [[0, 73]])

    def test_the_first_line_has_noughts_above(self):
        self.assertEqual(lines_of(3, 1, 1, [80, 40, 20]), [[3, 128, 95, 1]])

    def test_the_point_before_is_of_the_same_channel(self):
        self.assertEqual(lines_of(3, 1, 2, [9, 30, 9, 30, 9, 30]), [[1, 81, 123, 3]])
        self.assertEqual(lines_of(2, 1, 4, [9, 30, 1, 20, 9, 30, 1, 20]), [[1, 81, 123, 65, 103, 3]])

    def test_the_line_above_is_of_the_same_channel(self):
        self.assertEqual(self.best([9, 30, 5, 9, 30, 5], [9, 30, 5, 9, 30, 5], 3), [2, 5])

    def test_going_round(self):
        # 0 less 65535 is 1 by rests of 2^16, and 65535 less 0 is -1.
        self.assertEqual(lines_of(2, 1, 1, [65535, 0]), [[0, 64, 0]])
        self.assertEqual(lines_of(4, 1, 1, [65535, 0, 1, 1]), [[0, 64, 0, 65, 65]])
        self.assertEqual(lines_of(3, 1, 1, [32767, 32768, 32769]), [[1, 192, 254, 255, 65, 65]])
        self.assertEqual(self.best([65535, 65535], [0, 0]), [0, 1])
        self.assertEqual(self.best([65535, 40000], [1, 40000]), [2, 67, 0])

    def test_half_of_great_numbers(self):
        self.assertEqual(self.best([65535, 65535, 65534], [32767, 49151, 57342]), [3, 2])


class Held(unittest.TestCase):
    def test_against_a_second_telling(self):
        sizes = [(1, 1), (2, 2), (1, 5), (5, 1), (3, 4), (7, 5), (16, 9), (70, 3), (200, 2)]
        for seed, (wide, high) in enumerate(sizes):
            for channels in (1, 2, 3, 4):
                for choices in (None, [0, 1], [0, 0, 0, 0, 0, 65535, 7], list(range(1000, 1040)), [0, 32768, 65535]):
                    with self.subTest(wide=wide, high=high, channels=channels, choices=choices):
                        numbers = some_numbers(seed, wide * high * channels, choices)
                        self.assertEqual(told(wide, high, channels, numbers),
                                         second_still(wide, high, channels, numbers))

    def test_slopes(self):
        for channels in (1, 2, 3, 4):
            numbers = [(300 * x + 170 * y * (-1) ** c + x * x * 3 + c * 999) % 65536
                       for y in range(12) for x in range(20) for c in range(channels)]
            self.assertEqual(told(20, 12, channels, numbers), second_still(20, 12, channels, numbers))
            numbers = [(90 * (y - x) + 40000) % 65536 for y in range(12) for x in range(20) for c in range(channels)]
            self.assertEqual(told(20, 12, channels, numbers), second_still(20, 12, channels, numbers))

    def test_all_guesses_are_chosen_somewhere(self):
        chosen = set()
        for seed in range(40):
            numbers = some_numbers(seed, 12, [0, 1, 2, 3, 5, 8, 13, 21, 34])
            chosen |= {line[0] for line in lines_of(3, 4, 1, numbers)}
        self.assertEqual(chosen, {0, 1, 2, 3, 4})


class Longest(unittest.TestCase):
    def test_as_many_numbers_as_may_be(self):
        for wide, high, channels in ((250, 232, 1), (290, 100, 2), (1000, 19, 3), (14, 1000, 4)):
            numbers = some_numbers(channels, wide * high * channels)
            self.assertEqual(told(wide, high, channels, numbers), second_still(wide, high, channels, numbers))

    def test_the_greatest_sheets(self):
        data = told(1024, 64, 4, [0] * 262144)
        lines = piece(b"LINE", b"\0" + b"\x3f" * 64) * 64
        self.assertEqual(data, piece(b"HEAD", bytes([0, 4, 64, 0, 4])) + lines + DONE)
        data = told(64, 1024, 1, [0] * 65536)
        self.assertEqual(data, piece(b"HEAD", bytes([64, 0, 0, 4, 1])) + piece(b"LINE", b"\0\x3f") * 1024 + DONE)


class Refused(unittest.TestCase):
    def refuses(self, *handed):
        self.assertEqual(called(desk.still, *handed), [-8])

    def test_the_size(self):
        for wide, high in TOO_SMALL_OR_GREAT:
            with self.subTest(wide=wide, high=high):
                self.refuses(wide, high, 1, [0] * (wide * high))
        self.refuses(OVER, 1, 1, [0])
        self.refuses(1, OVER, 1, [0])
        self.refuses(OVER, OVER, OVER, [])

    def test_the_channels(self):
        for channels in (0, 5, 6, OVER):
            self.refuses(1, 1, channels, [0] * min(channels, 6))

    def test_a_number(self):
        for place in range(4):
            for over in (65536, 70000):
                self.refuses(2, 2, 1, [0] * place + [over] + [0] * (3 - place))
        self.refuses(1, 1, 4, [0, 0, 0, 65536])

    def test_how_many_numbers(self):
        for channels in (1, 2, 3, 4):
            for more in (-1, 1, channels, -channels):
                self.refuses(2, 3, channels, [0] * (6 * channels + more))
        self.refuses(1, 1, 1, [])


if __name__ == "__main__":
    unittest.main()
