"""Point 14 of DOC.md: unfilm."""

import random
import struct
import unittest

from helper import DONE, OVER, SpoiledFiles, called, cut, film_head, full_of, part_of, piece, second_film
from helper import second_unfilm, some_numbers, text_of
from shownback import desk

MOST = 2097152


def read(k, data):
    return called(desk.unfilm, k, list(data))


def full(time, *lines):
    return piece(b"FULL", struct.pack("<H", time) + b"".join(map(bytes, lines)))


def part(time, x, y, wide, high, *lines):
    return piece(b"PART", struct.pack("<HHHHH", time, x, y, wide, high) + b"".join(map(bytes, lines)))


class ReadBack(unittest.TestCase):
    def test_by_hand(self):
        data = film_head(2, 2, 1, 3) + full(7, [0, 65, 67], [1, 69, 65]) + part(8, 1, 0, 1, 2, [0, 73], [2, 0])
        data += part(65535, 0, 0, 0, 0) + DONE
        self.assertEqual(read(0, data), [0, 7, 2, 2, 1, 1, 2, 3, 4])
        self.assertEqual(read(1, data), [0, 8, 2, 2, 1, 1, 7, 3, 9])
        self.assertEqual(read(2, data), [0, 65535, 2, 2, 1, 1, 7, 3, 9])
        self.assertEqual(read(3, data), [-5])

    def test_what_film_tells_each_of_them(self):
        chance = random.Random(17)
        for _ in range(60):
            wide, high, channels = chance.randrange(1, 7), chance.randrange(1, 7), chance.randrange(1, 5)
            numbers = some_numbers(chance.random(), wide * high * channels, chance.choice([None, [0], [0, 65535]]))
            handed = []
            for _ in range(chance.randrange(1, 7)):
                handed += [[chance.randrange(65536)], list(numbers)]
                for _ in range(chance.choice([0, 1, 3])):
                    numbers[chance.randrange(len(numbers))] = chance.choice([0, 65535, chance.randrange(65536)])
            data = text_of(desk.film(wide, high, channels, handed))
            for k in range(len(handed) // 2):
                self.assertEqual(read(k, data), [0] + handed[2 * k] + [wide, high, channels] + handed[2 * k + 1])
            for k in (len(handed) // 2, 64, 65535):
                self.assertEqual(read(k, data), [-5])

    def test_sixty_four_sheets(self):
        sheets = [(k * 1000, some_numbers(k % 5, 40)) for k in range(64)]
        data = second_film(5, 4, 2, sheets)
        for k, (time, numbers) in enumerate(sheets):
            self.assertEqual(read(k, data), [0, time, 5, 4, 2] + numbers)
        self.assertEqual(read(64, data), [-5])

    def test_going_round(self):
        data = film_head(1, 1, 1, 3) + full(0, [0, 64]) + part(1, 0, 0, 1, 1, [0, 65])
        data += part(2, 0, 0, 1, 1, [0, 64]) + DONE
        self.assertEqual([read(k, data)[-1] for k in range(3)], [65535, 0, 65535])


class OtherFiles(unittest.TestCase):
    """Files that film would not tell, but that will do."""

    def test_full_or_part_whichever_is_longer(self):
        before, after = some_numbers(1, 24), some_numbers(2, 24)
        same = film_head(4, 6, 1, 2) + piece(b"FULL", full_of(1, 4, 1, before))
        same += piece(b"FULL", full_of(2, 4, 1, before))
        self.assertEqual(read(1, same + DONE), [0, 2, 4, 6, 1] + before)
        other = film_head(4, 6, 1, 2) + piece(b"FULL", full_of(1, 4, 1, before))
        other += piece(b"PART", part_of(2, 4, 1, after, before)) + DONE
        self.assertEqual(read(1, other), [0, 2, 4, 6, 1] + after)
        tiny = film_head(1, 1, 1, 2) + full(1, [0, 65]) + part(2, 0, 0, 0, 0) + DONE
        self.assertEqual(read(1, tiny), [0, 2, 1, 1, 1, 1])

    def test_any_guesses_and_any_rectangle(self):
        chance = random.Random(18)
        for seed in range(150):
            wide, high, channels = chance.randrange(1, 6), chance.randrange(1, 6), chance.randrange(1, 5)
            before = some_numbers(seed, wide * high * channels, chance.choice([None, [0, 65535, 7]]))
            x, y = chance.randrange(wide), chance.randrange(high)
            across, down = chance.randrange(1, wide - x + 1), chance.randrange(1, high - y + 1)
            after = list(before)
            for row in range(y, y + down):
                for k in range((row * wide + x) * channels, (row * wide + x + across) * channels):
                    after[k] = chance.choice([before[k], chance.randrange(65536)])
            data = film_head(wide, high, channels, 3)
            which = [chance.randrange(5) for _ in range(high)]
            data += piece(b"FULL", full_of(1, wide, channels, before, which))
            rectangle = (x, y, across, down)
            data += piece(b"PART", part_of(2, wide, channels, after, before, rectangle, which))
            data += piece(b"FULL", full_of(3, wide, channels, before, which[::-1])) + DONE
            self.assertEqual(read(0, data), [0, 1, wide, high, channels] + before)
            self.assertEqual(read(1, data), [0, 2, wide, high, channels] + after)
            self.assertEqual(read(2, data), [0, 3, wide, high, channels] + before)

    def test_a_rectangle_of_noughts(self):
        data = film_head(3, 2, 1, 2) + full(0, [0, 65, 65, 65], [0, 2]) + part(1, 0, 0, 3, 2, [0, 2], [4, 2]) + DONE
        self.assertEqual(read(1, data), [0, 1, 3, 2, 1, 1, 1, 1, 0, 0, 0])
        data = film_head(3, 2, 1, 2) + full(0, [0, 65, 65, 65], [0, 2]) + part(1, 2, 1, 1, 1, [0, 0]) + DONE
        self.assertEqual(read(1, data), [0, 1, 3, 2, 1, 1, 1, 1, 0, 0, 0])

    def test_the_most_that_may_be(self):
        line = [0] + [63] * 16
        data = film_head(256, 256, 4, 1) + full(0, *[line] * 256) + DONE
        self.assertEqual(read(0, data), [0, 0, 256, 256, 4] + [0] * 262144)
        data = film_head(64, 64, 1, 64) + full(0, *[[0, 63]] * 64) * 64 + DONE
        self.assertEqual(read(63, data), [0, 0, 64, 64, 1] + [0] * 4096)
        self.assertEqual(read(64, data), [-5])

    def test_the_longest_files(self):
        sheets = [(k, some_numbers(k, 500)) for k in range(64)]
        data = second_film(25, 20, 1, sheets)
        self.assertTrue(80000 < len(data) <= 100000, len(data))
        self.assertEqual(read(63, data), [0, 63, 25, 20, 1] + sheets[63][1])
        self.assertEqual(read(65535, data), [-5])


class WrongPieces(SpoiledFiles, unittest.TestCase):
    def reads(self, data):
        return [desk.unfilm(0, list(data))] + [read(k, data) for k in (2, 3, 65535)]

    def setUp(self):
        data = film_head(3, 2, 1, 3) + full(1, [0, 65, 66, 67], [1, 0, 128, 5, 192, 255, 255])
        self.set_data(data + part(2, 1, 0, 2, 2, [0, 68, 0], [2, 0, 70]) + full(3, [0, 2], [0, 2]) + DONE)
        self.assertEqual([read(k, self.data)[0] for k in range(4)], [0, 0, 0, -5])

    def test_a_part_first(self):
        self.wrong(1, self.instead(1, part(1, 0, 0, 0, 0)))
        self.wrong(1, self.instead(1, part(1, 0, 0, 3, 2, [0, 2], [0, 2])))

    def test_the_head(self):
        for wide, high, channels, many in ((3, 2, 1, 0), (3, 2, 1, 65), (3, 2, 1, 65535), (0, 2, 1, 3), (3, 0, 1, 3),
                                           (3, 2, 0, 3), (3, 2, 5, 3), (1025, 1, 1, 1), (1, 1025, 1, 1),
                                           (257, 256, 1, 1),
                                           (64, 65, 1, 64), (256, 256, 4, 2), (256, 256, 1, 5), (1024, 64, 3, 2),
                                           (185, 109, 1, 13)):
            self.wrong(0, self.instead(0, film_head(wide, high, channels, many)))
        for content in (b"", b"\3\0\2\0\1", b"\3\0\2\0\1\3", b"\3\0\2\0\1\3\0\0", b"\3\0\2\0\1\3\0" * 2):
            self.wrong(0, self.instead(0, piece(b"HEAD", content)))

    def test_a_rectangle_past_the_edges(self):
        for rectangle in ((3, 0, 1, 1), (0, 2, 1, 1), (2, 0, 2, 1), (0, 1, 1, 2), (1, 0, 3, 1), (0, 0, 4, 1),
                          (0, 0, 1, 3),
                          (65535, 0, 1, 1), (0, 65535, 1, 1), (65535, 65535, 1, 1)):
            x, y, wide, high = rectangle
            self.wrong(2, self.instead(2, part(2, x, y, wide, high, *[[0, wide - 1]] * high)))

    def test_a_rectangle_of_no_point(self):
        for rectangle in ((0, 0, 0, 1), (0, 0, 1, 0), (1, 0, 0, 0), (0, 1, 0, 0), (1, 1, 0, 0), (0, 0, 3, 0),
                          (0, 0, 0, 2),
                          (3, 2, 0, 0), (0, 0, 65535, 0)):
            self.wrong(2, self.instead(2, part(2, *rectangle)))
            self.wrong(2, self.instead(2, part(2, *rectangle, [0], [0])))
        self.assertEqual(read(1, self.instead(2, part(2, 0, 0, 0, 0)))[0], 0)
        self.wrong(2, self.instead(2, part(2, 0, 0, 0, 0, [0])))
        self.wrong(2, self.instead(2, part(2, 0, 0, 0, 0, [0, 2], [0, 2])))

    def test_too_few_bytes_before_the_lines(self):
        for many in range(10):
            self.wrong(2, self.instead(2, piece(b"PART", bytes(many))))
        for many in range(2):
            self.wrong(1, self.instead(1, piece(b"FULL", bytes(many))))

    def test_lines(self):
        for lines in ([[0, 2]], [[0, 2], [0, 2], [0, 2]], [[0, 2], [5, 2]], [[5, 2], [0, 2]], [[0, 2], [255, 2]],
                      [[0, 2], [0]], [[0, 2], []], [[0, 1], [0, 2]], [[0, 3], [0, 2]], [[0, 5]], [[0, 5], [0, 2]],
                      [[0, 2], [0, 3]], [[0, 2], [0, 0, 1]], [[0, 0, 0, 0], [0, 2]], [[0, 2], [0, 2, 0]],
                      [[0, 2], [0, 65, 65]], [[0, 2], [0, 65, 65, 65, 65]], [[0, 2], [0, 1, 193]],
                      [[0, 2], [0, 1, 255, 255, 255]], [[0, 1, 192, 64, 64], [0, 2]], [[0, 1, 192, 1, 0], [0, 2]],
                      [[0, 2], [0, 1, 128]], [[0, 2], [0, 1, 192, 255]], [[0, 65, 63], [0, 2]]):
            self.wrong(1, self.instead(1, full(1, *lines)))
            self.wrong(3, self.instead(3, full(1, *lines)))
            self.wrong(2, self.instead(2, part(1, 0, 0, 3, 2, *lines)))

    def test_noughts_may_stand_on_both_sides_of_a_guess(self):
        data = self.instead(3, full(3, [0, 2], [1, 2]))
        self.assertEqual(read(2, data), [0, 3, 3, 2, 1] + [0] * 6)

    def test_lines_guessed_by_the_wrong_width(self):
        self.wrong(2, self.instead(2, part(2, 1, 0, 2, 2, [0, 2], [0, 2])))
        self.wrong(2, self.instead(2, part(2, 1, 0, 2, 2, [0, 1], [0, 0])))

    def test_a_sheet_that_lacks_or_is_too_much(self):
        self.wrong(1, b"".join(self.pieces[:1] + self.pieces[2:]))
        for place in (2, 3):
            self.wrong(3, b"".join(self.pieces[:place] + self.pieces[place + 1:]))
        for place in (1, 2, 3):
            self.wrong(4, b"".join(self.pieces[:place + 1] + self.pieces[place:]))
        self.wrong(1, self.pieces[0] + DONE)
        self.wrong(1, self.pieces[0])
        self.wrong(4, b"".join(self.pieces[:-1]))

    def test_a_wrong_one_behind_the_one_asked_for(self):
        self.wrong(3, self.instead(3, full(3, [0, 2], [5, 2])))
        self.wrong(4, self.instead(4, piece(b"DON.")))

    def test_a_still_is_no_film_and_a_film_no_still(self):
        self.wrong(0, text_of(desk.still(3, 2, 1, [0] * 6)))
        self.assertEqual(desk.unstill(list(self.data)), [-100])

    def test_the_longest_files(self):
        self.wrong(2, film_head(1, 1, 1, 64) + full(0, [0, 0]) + piece(b"PART", b"\0" * 90000))


class Held(unittest.TestCase):
    def test_spoiled_files_against_a_second_reading(self):
        chance = random.Random(19)
        answers = {}
        for seed in range(2500):
            wide, high, channels = chance.choice([(1, 1), (3, 2), (2, 3), (33, 2)]) + (chance.randrange(1, 4),)
            numbers = some_numbers(seed, wide * high * channels, chance.choice([None, [0, 0, 9], [0]]))
            sheets = []
            for _ in range(chance.randrange(1, 4)):
                sheets.append((chance.randrange(65536), list(numbers)))
                numbers[chance.randrange(len(numbers))] = chance.randrange(65536)
            pieces = [list(one) for one in cut(second_film(wide, high, channels, sheets))]
            for _ in range(chance.randrange(3)):
                one = chance.choice(pieces)
                at = chance.randrange(len(one[1]) + 1)
                more = bytes(chance.choices([0, 1, 2, 3, 62, 63, 65, 128, 192], k=chance.randrange(3)))
                one[1] = one[1][:at] + more + one[1][at + chance.choice([0, len(more), 1]):]
            if chance.randrange(8) == 0:
                pieces.insert(chance.randrange(len(pieces) + 1), list(chance.choice(pieces)))
            data = b"".join(piece(*one) for one in pieces)
            if chance.randrange(12) == 0:
                data = data[:chance.randrange(len(data))]
            k = chance.randrange(4)
            wanted = second_unfilm(k, data)
            answers[wanted[0]] = answers.get(wanted[0], 0) + 1
            self.assertEqual(desk.unfilm(k, list(data)), wanted, data)
        self.assertTrue(all(answers.get(answer, 0) > 50 for answer in (0, -5, -100, -101, -102, -103)), answers)


class OutOfRange(unittest.TestCase):
    def refuses(self, *handed):
        self.assertEqual(called(desk.unfilm, *handed), [-8])

    def setUp(self):
        self.data = list(film_head(1, 1, 1, 1) + full(0, [0, 65]) + DONE)

    def test_k(self):
        for k in (65536, 65537, 2 ** 32, OVER):
            self.refuses(k, self.data)
            self.refuses(k, [])
            self.refuses(k, self.data[:-1])
        self.assertEqual(desk.unfilm(65535, self.data), [-5])

    def test_something_above_255(self):
        for over in (256, 300):
            for at in range(len(self.data)):
                self.refuses(0, self.data[:at] + [over] + self.data[at + 1:])
            self.refuses(0, self.data + [over])
            self.refuses(1, self.data + [over])

    def test_also_where_the_file_is_wrong(self):
        self.refuses(0, [256])
        self.refuses(5, [0, 300])
        self.refuses(0, [1] * 99999 + [256])

    def test_too_many_bytes(self):
        self.refuses(0, [0] * (MOST + 1))
        self.assertEqual(desk.unfilm(0, [0] * MOST), [-100])


if __name__ == "__main__":
    unittest.main()
