"""Point 12 of DOC.md: unstill."""

import random
import struct
import unittest

from helper import DONE, SpoiledFiles, called, cut, piece, second_still, second_unstill, some_numbers, text_of
from shownback import desk

MOST = 2097152


def read(data):
    return called(desk.unstill, list(data))


def head(wide, high, channels):
    return piece(b"HEAD", struct.pack("<HHB", wide, high, channels))


def line(*content):
    return piece(b"LINE", bytes(content))


class ReadBack(unittest.TestCase):
    def test_by_hand(self):
        self.assertEqual(read(head(1, 1, 1) + line(0, 65) + DONE), [0, 1, 1, 1, 1])
        self.assertEqual(read(head(3, 1, 1) + line(1, 65, 65, 65) + DONE), [0, 3, 1, 1, 1, 2, 3])
        self.assertEqual(read(head(2, 2, 1) + line(0, 67, 69) + line(2, 1) + DONE), [0, 2, 2, 1, 2, 3, 2, 3])
        self.assertEqual(read(head(1, 1, 2) + line(4, 64, 0) + DONE), [0, 1, 1, 2, 65535, 0])

    def test_what_still_tells(self):
        for seed, (wide, high) in enumerate([(1, 1), (2, 3), (5, 4), (1, 9), (9, 1), (70, 3), (130, 2)]):
            for channels in (1, 2, 3, 4):
                for choices in (None, [0], [0, 0, 0, 65535], list(range(500, 520)), [0, 32767, 32768, 65535]):
                    with self.subTest(wide=wide, high=high, channels=channels, choices=choices):
                        numbers = some_numbers(seed, wide * high * channels, choices)
                        data = text_of(desk.still(wide, high, channels, numbers))
                        self.assertEqual(read(data), [0, wide, high, channels] + numbers)

    def test_any_guesses(self):
        chance = random.Random(13)
        for seed in range(60):
            wide, high, channels = chance.randrange(1, 6), chance.randrange(1, 6), chance.randrange(1, 5)
            numbers = some_numbers(seed, wide * high * channels, chance.choice([None, [0, 5], [65535, 0, 32768]]))
            for which in ([0] * high, [1] * high, [2] * high, [3] * high, [4] * high,
                          [chance.randrange(5) for _ in range(high)]):
                data = second_still(wide, high, channels, numbers, which)
                self.assertEqual(read(data), [0, wide, high, channels] + numbers)

    def test_every_way_to_keep_a_number(self):
        for kept, number in (((0,), 0), ((64,), 65535), ((65,), 1), ((126,), 65536 - 32), ((127,), 32),
                             ((128, 0), 65536 - 33), ((128, 1), 33), ((191, 255), 8224), ((191, 254), 65536 - 8224),
                             ((192, 65, 64), 65536 - 8225), ((192, 66, 64), 8225), ((192, 255, 255), 32768),
                             ((192, 254, 255), 32767)):
            self.assertEqual(read(head(1, 1, 1) + line(0, *kept) + DONE), [0, 1, 1, 1, number])

    def test_noughts_in_a_row(self):
        for many, kept in ((1, [0]), (64, [63]), (65, [63, 0]), (127, [63, 62]), (128, [63, 63]), (129, [63, 63, 0])):
            self.assertEqual(read(head(many, 1, 1) + line(3, *kept) + DONE), [0, many, 1, 1] + [0] * many)

    def test_the_greatest_sheets(self):
        data = head(1024, 64, 4) + line(0, *[63] * 64) * 64 + DONE
        self.assertEqual(read(data), [0, 1024, 64, 4] + [0] * 262144)
        data = head(64, 1024, 1) + line(4, *[63]) * 1024 + DONE
        self.assertEqual(read(data), [0, 64, 1024, 1] + [0] * 65536)

    def test_the_longest_files(self):
        numbers = some_numbers(3, 33000)
        data = second_still(330, 100, 1, numbers)
        self.assertTrue(90000 < len(data) <= 100000, len(data))
        self.assertEqual(read(data), [0, 330, 100, 1] + numbers)


class WrongPieces(SpoiledFiles, unittest.TestCase):
    def reads(self, data):
        return [read(data)]

    def setUp(self):
        numbers = [0, 0, 5, 1000, 40000, 7, 1, 2, 3, 65535, 0, 9]
        self.set_data(second_still(3, 4, 1, numbers))
        self.assertEqual(read(self.data), [0, 3, 4, 1] + numbers)

    def test_cut_off_where_only_a_nought_of_the_sum_lacks(self):
        ends = 0
        for number in range(2000):
            data = head(1, 1, 1) + second_still(1, 1, 1, [number])[17:-12]
            if data[-1] == 0:
                ends += 1
                self.wrong(1, data[:-1])
                self.wrong(2, data)
        self.assertGreater(ends, 0)

    def test_a_head_out_of_its_range(self):
        for wide, high, channels in ((0, 4, 1), (3, 0, 1), (0, 0, 1), (3, 4, 0), (3, 4, 5), (3, 4, 255), (1025, 1, 1),
                                     (1, 1025, 1), (65535, 1, 1), (1, 65535, 1), (257, 256, 1), (1024, 65, 1),
                                     (65535, 65535, 4)):
            self.wrong(0, self.instead(0, head(wide, high, channels)))

    def test_a_head_of_another_length(self):
        for content in (b"", b"\3", b"\3\0\4\0", b"\3\0\4\0\1\0", b"\3\0\4\0\1\1\0", b"\3\0\4\0\1" * 2):
            self.wrong(0, self.instead(0, piece(b"HEAD", content)))

    def test_another_guess(self):
        for which in (5, 6, 64, 255):
            self.wrong(1, self.instead(1, line(which, 2)))
            self.wrong(4, self.instead(4, line(which, 2)))
        for which in (0, 1, 2, 3, 4):
            self.assertEqual(read(self.instead(1, line(which, 2)))[0], 0)

    def test_a_line_with_nothing_in_it(self):
        self.wrong(1, self.instead(1, line()))
        self.wrong(3, self.instead(3, line(0)))

    def test_noughts_parted(self):
        for kept in ((0, 1), (1, 0), (0, 0, 0), (65, 0, 0), (0, 0, 65)):
            self.wrong(2, self.instead(2, line(0, *kept)))
        for kept, many in (((62, 0), 64), ((0, 62), 64), ((0, 63), 65), ((62, 1), 65), ((63, 0, 0), 66),
                           ((63, 0, 63), 129),
                           ((62, 63), 127), ((63, 62, 0), 128)):
            self.wrong(1, head(many, 1, 1) + line(0, *kept) + DONE)

    def test_a_number_kept_in_a_longer_way(self):
        for folded in (0, 1, 2, 64, 65, 66, 255, 256, 16447, 16448):
            self.wrong(1, head(1, 1, 1) + line(0, 192, folded % 256, folded // 256) + DONE)
        for folded in (16449, 16450, 20000, 65535):
            self.assertEqual(read(head(1, 1, 1) + line(0, 192, folded % 256, folded // 256) + DONE)[0], 0)

    def test_bytes_from_193_on(self):
        for byte in range(193, 256):
            self.wrong(2, self.instead(2, line(0, byte, 255, 255, 1)))
            self.wrong(2, self.instead(2, line(0, 65, 65, byte)))
            self.wrong(1, head(1, 1, 1) + line(0, byte) + DONE)
            self.wrong(1, head(1, 1, 1) + line(0, byte, 255) + DONE)
            self.wrong(1, head(1, 1, 1) + line(0, byte, 255, 255) + DONE)

    def test_too_few_or_too_many_numbers(self):
        for kept in ((1,), (65,), (65, 65), (0, 65), (65, 0), (3,), (63,), (65, 2), (65, 65, 1), (65, 65, 65, 65),
                     (2, 65),
                     (2, 0), (65, 65, 65, 0), (65, 65, 128), (65, 65, 192), (65, 65, 192, 255), (128,),
                     (65, 65, 128, 0, 0), (65, 65, 192, 255, 255, 0)):
            for place in (1, 3, 4):
                self.wrong(place, self.instead(place, line(0, *kept)))

    def test_a_line_that_lacks_or_is_too_much(self):
        for place in (1, 2, 3, 4):
            self.wrong(4, b"".join(self.pieces[:place] + self.pieces[place + 1:]))
            self.wrong(5, b"".join(self.pieces[:place] + self.pieces[place:place + 1] + self.pieces[place:]))
        self.wrong(1, self.pieces[0] + DONE)
        self.wrong(1, self.pieces[0])
        self.wrong(5, b"".join(self.pieces[:-1]))

    def test_a_head_that_lacks_or_is_too_much(self):
        self.wrong(0, b"".join(self.pieces[1:]))
        self.wrong(1, self.pieces[0] + self.data)
        self.wrong(0, DONE)
        self.wrong(0, DONE + self.data)

    def test_many_pieces(self):
        data = head(1, 1024, 1) + line(0, 0) * 1024
        self.assertEqual(read(data + DONE), [0, 1, 1024, 1] + [0] * 1024)
        self.wrong(1025, data)
        self.wrong(1026, data + DONE + DONE)
        self.wrong(1024, head(1, 1024, 1) + line(0, 0) * 1023 + DONE)
        self.wrong(1025, data + line(0, 0) + DONE)

    def test_the_longest_files(self):
        self.wrong(1, head(1024, 64, 1) + piece(b"LINE", b"\0" * 99000))
        self.wrong(2, head(1, 1, 1) + line(0, 0) + piece(b"DONE", b"\0" * 90000))


class Held(unittest.TestCase):
    def test_spoiled_files_against_a_second_reading(self):
        chance = random.Random(14)
        read_back = 0
        for seed in range(3000):
            wide, high, channels = chance.choice([(1, 1), (3, 2), (70, 1), (2, 3)]) + (chance.randrange(1, 5),)
            choices = chance.choice([None, [0, 0, 0, 0, 9], [0, 33, 8225]])
            which = chance.choice([None, [chance.randrange(5) for _ in range(high)]])
            data = second_still(wide, high, channels, some_numbers(seed, wide * high * channels, choices), which)
            pieces = [list(one) for one in cut(data)]
            for _ in range(chance.randrange(3)):
                one = chance.choice(pieces)
                at = chance.randrange(len(one[1]) + 1)
                more = bytes(chance.choices([0, 1, 2, 3, 62, 63, 64, 65, 128, 192, 255], k=chance.randrange(3)))
                one[1] = one[1][:at] + more + one[1][at + chance.choice([0, 1, 2]):]
            data = b"".join(piece(*one) for one in pieces)
            if chance.randrange(8) == 0:
                data = data[:chance.randrange(len(data))]
            wanted = second_unstill(data)
            read_back += wanted[0] == 0
            self.assertEqual(desk.unstill(list(data)), wanted, data)
        self.assertTrue(500 < read_back < 2500, read_back)

    def test_all_short_lines(self):
        contents = [b"\0"]
        for _ in range(4):
            contents = [content + bytes([byte]) for content in contents for byte in (0, 1, 2, 63, 65, 128, 192, 200)]
            for content in contents:
                data = head(3, 1, 1) + piece(b"LINE", content) + DONE
                self.assertEqual(desk.unstill(list(data)), second_unstill(data), data)


class OutOfRange(unittest.TestCase):
    def refuses(self, numbers):
        self.assertEqual(called(desk.unstill, numbers), [-8])

    def test_something_above_255(self):
        data = list(head(1, 1, 1) + line(0, 65) + DONE)
        for over in (256, 300):
            for at in range(len(data)):
                self.refuses(data[:at] + [over] + data[at + 1:])
            self.refuses(data + [over])

    def test_also_where_the_file_is_wrong(self):
        self.refuses([256])
        self.refuses([0, 300])
        self.refuses([1] * 99999 + [256])
        self.refuses(list(head(0, 0, 0)) + [256])

    def test_too_many_bytes(self):
        self.refuses([0] * (MOST + 1))
        self.assertEqual(desk.unstill([0] * MOST), [-100])


if __name__ == "__main__":
    unittest.main()
