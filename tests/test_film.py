"""Point 13 of DOC.md: film."""

import random
import struct
import unittest

from helper import DONE, OVER, TOO_SMALL_OR_GREAT, called, cut, film_head, full_of, part_of, piece, second_film
from helper import some_numbers, text_of
from shownback import desk


def told(wide, high, channels, *sheets):
    """The file of sheets, each a time and its numbers."""
    handed = [numbers for sheet in sheets for numbers in ([sheet[0]], sheet[1])]
    return text_of(called(desk.film, wide, high, channels, handed))


def frames(wide, high, channels, *sheets):
    """What stands in the pieces between the head and the end."""
    pieces = cut(told(wide, high, channels, *sheets))
    assert pieces[0] == (b"HEAD", struct.pack("<HHBH", wide, high, channels, len(sheets)))
    assert pieces[-1] == (b"DONE", b"")
    return pieces[1:-1]


NOISE = some_numbers(1, 96)


class Files(unittest.TestCase):
    def test_one_sheet(self):
        wanted = film_head(2, 2, 1, 1) + piece(b"FULL", bytes([5, 0, 1, 65, 65, 4, 67, 65])) + DONE
        self.assertEqual(told(2, 2, 1, (5, [1, 2, 3, 4])), wanted)

    def test_the_bytes_of_the_head(self):
        self.assertEqual(cut(told(2, 3, 1, (0, [0] * 6)))[0], (b"HEAD", bytes([2, 0, 3, 0, 1, 1, 0])))
        self.assertEqual(cut(told(1024, 1, 4, (0, [0] * 4096), (1, [0] * 4096)))[0],
                         (b"HEAD", bytes([0, 4, 1, 0, 4, 2, 0])))

    def test_sixty_four_sheets(self):
        sheets = [(k * 1000, [k + j for j in range(12)]) for k in range(64)]
        data = told(2, 3, 2, *sheets)
        self.assertEqual(data, second_film(2, 3, 2, sheets))
        self.assertEqual(len(cut(data)), 66)

    def test_times(self):
        for time in (0, 1, 255, 256, 65535):
            content = struct.pack("<H", time) + bytes([0, 73])
            self.assertEqual(frames(1, 1, 1, (time, [5])), [(b"FULL", content)])

    def test_times_need_not_rise(self):
        self.assertEqual([content[:2] for _, content in frames(1, 1, 1, (9, [5]), (0, [5]), (9, [5]))],
                         [b"\x09\0", b"\0\0", b"\x09\0"])


class Parts(unittest.TestCase):
    def second(self, wide, high, channels, before, after):
        return frames(wide, high, channels, (0, before), (258, after))[1]

    def changed(self, before, places, by=1):
        after = list(before)
        for place in places:
            after[place] = (after[place] + by) % 65536
        return after

    def test_as_the_one_before(self):
        self.assertEqual(self.second(8, 12, 1, NOISE, NOISE), (b"PART", bytes([2, 1, 0, 0, 0, 0, 0, 0, 0, 0])))

    def test_one_point_differs(self):
        after = self.changed(NOISE, [27], 5)
        self.assertEqual(self.second(8, 12, 1, NOISE, after),
                         (b"PART", bytes([2, 1, 3, 0, 3, 0, 1, 0, 1, 0, 0, 73])))

    def test_each_corner(self):
        for place, x, y in ((0, 0, 0), (7, 7, 0), (88, 0, 11), (95, 7, 11)):
            after = self.changed(NOISE, [place])
            wanted = bytes([2, 1, x, 0, y, 0, 1, 0, 1, 0, 0, 65])
            self.assertEqual(self.second(8, 12, 1, NOISE, after), (b"PART", wanted))

    def test_the_least_rectangle(self):
        for places, rectangle in (((9, 10), (1, 1, 2, 1)), ((9, 17), (1, 1, 1, 2)), ((9, 18), (1, 1, 2, 2)),
                                  ((10, 17), (1, 1, 2, 2)), ((0, 95), (0, 0, 8, 12)), ((7, 88), (0, 0, 8, 12)),
                                  ((3, 24, 31), (0, 0, 8, 4)), ((26, 36, 43), (2, 3, 3, 3))):
            letters, content = self.second(8, 12, 1, NOISE, self.changed(NOISE, places))
            with self.subTest(places=places):
                self.assertEqual(letters, b"PART")
                self.assertEqual(struct.unpack("<HHHH", content[2:10]), rectangle)

    def test_one_channel_of_a_point_is_enough(self):
        for channels in (2, 3, 4):
            for channel in range(channels):
                after = self.changed(NOISE, [13 * channels % 96 // channels * channels + channel])
                letters, content = self.second(2, 96 // 2 // channels, channels, NOISE, after)
                self.assertEqual(letters, b"PART")
                self.assertEqual(struct.unpack("<HH", content[6:10]), (1, 1))
                self.assertEqual(content, part_of(258, 2, channels, after, NOISE))

    def test_all_points_differ(self):
        after = some_numbers(2, 96)
        letters, content = self.second(8, 12, 1, NOISE, after)
        self.assertEqual((letters, content), (b"FULL", full_of(258, 8, 1, after)))
        after = self.changed(NOISE, range(96), 1000)
        letters, content = self.second(8, 12, 1, NOISE, after)
        self.assertEqual((letters, content), (b"PART", part_of(258, 8, 1, after, NOISE)))
        self.assertEqual(content[:10], bytes([2, 1, 0, 0, 0, 0, 8, 0, 12, 0]))

    def test_a_part_as_long_is_told_in_full(self):
        # Six points: the part has eight bytes of a rectangle that the other has not.
        lengths = {}
        chance = random.Random(15)
        for _ in range(3000):
            wide, high = chance.choice([(1, 6), (2, 4), (4, 2), (3, 3), (6, 1), (5, 2)])
            before = [chance.choice([0, 0, 9, 300, 9000]) for _ in range(wide * high)]
            after = [chance.choice([number, number, 0, 9000]) for number in before]
            full, part = full_of(258, wide, 1, after), part_of(258, wide, 1, after, before)
            more = len(part) - len(full)
            lengths[more] = lengths.get(more, 0) + 1
            wanted = (b"PART", part) if more < 0 else (b"FULL", full)
            handed = [[0], before, [258], after]
            self.assertEqual(cut(text_of(desk.film(wide, high, 1, handed)))[2], wanted)
        self.assertTrue(all(lengths.get(more, 0) > 5 for more in (-2, -1, 0, 1, 2)), lengths)

    def test_the_same_but_shorter_in_full(self):
        self.assertEqual(self.second(1, 1, 1, [5], [5]), (b"FULL", bytes([2, 1, 0, 73])))
        # 2 and 8 bytes of a part against 2 and one line of eight.
        self.assertEqual(self.second(7, 1, 1, [1, 3, 9, 27, 1, 3, 9], [1, 3, 9, 27, 1, 3, 9])[0], b"FULL")
        self.assertEqual(self.second(8, 1, 1, [1, 3, 9, 27, 1, 3, 9, 27], [1, 3, 9, 27, 1, 3, 9, 27])[0], b"PART")

    def test_going_round(self):
        before, after = list(NOISE), list(NOISE)
        before[10], after[10] = 65535, 0
        self.assertEqual(self.second(8, 12, 1, before, after)[1][10:], bytes([0, 65]))
        self.assertEqual(self.second(8, 12, 1, after, before)[1][10:], bytes([0, 64]))
        before[11], after[11] = 0, 32768
        # 32768 is 32767 more than the one before.
        self.assertEqual(self.second(8, 12, 1, before, after)[1][10:], bytes([1, 65, 192, 254, 255]))
        before[10] = after[10]
        self.assertEqual(self.second(8, 12, 1, before, after)[1][10:], bytes([0, 192, 255, 255]))

    def test_guessed_within_the_rectangle_alone(self):
        # Two by two points that are 9 more: the first from nothing, the others from it.
        after = self.changed(NOISE, [35, 36, 43, 44], 9)
        self.assertEqual(self.second(8, 12, 1, NOISE, after),
                         (b"PART", bytes([2, 1, 3, 0, 4, 0, 2, 0, 2, 0, 1, 81, 0, 2, 1])))

    def test_what_is_guessed_are_rests_of_65536(self):
        # -1 is 65535: half of 65535 and 65535 is 65535 too, and half of 65535 and 0 is 32767.
        after = self.changed(NOISE, [35, 36, 43, 44], 65535)
        self.assertEqual(self.second(8, 12, 1, NOISE, after)[1][10:], bytes([1, 64, 0, 2, 1]))
        after = [(number + off) % 65536 for number, off in zip(NOISE, [32767] + [0] * 95)]
        after = self.changed(after, [8], 16383)
        after = self.changed(after, [9], 8191)
        self.assertEqual(self.second(8, 12, 1, NOISE, after)[1], part_of(258, 8, 1, after, NOISE))

    def test_against_the_one_before_not_the_first(self):
        first, second = NOISE, self.changed(NOISE, [0])
        third = self.changed(second, [95])
        told_frames = frames(8, 12, 1, (0, first), (1, second), (2, third))
        self.assertEqual([letters for letters, _ in told_frames], [b"FULL", b"PART", b"PART"])
        self.assertEqual(told_frames[2][1], part_of(2, 8, 1, third, second))

    def test_the_first_is_full_though_it_be_noughts(self):
        self.assertEqual(frames(8, 12, 1, (0, [0] * 96))[0][0], b"FULL")


class Held(unittest.TestCase):
    def test_against_a_second_telling(self):
        chance = random.Random(16)
        for _ in range(120):
            wide, high, channels = chance.randrange(1, 9), chance.randrange(1, 9), chance.randrange(1, 5)
            sheets = []
            numbers = [chance.choice([0, 7, 65535, chance.randrange(65536)]) for _ in range(wide * high * channels)]
            for _ in range(chance.randrange(1, 6)):
                sheets.append((chance.randrange(65536), list(numbers)))
                for _ in range(chance.choice([0, 1, 2, 9])):
                    numbers[chance.randrange(len(numbers))] = chance.choice([0, 1, 65535, chance.randrange(65536)])
            self.assertEqual(told(wide, high, channels, *sheets), second_film(wide, high, channels, sheets))

    def test_each_number_of_channels(self):
        for channels in (1, 2, 3, 4):
            first = some_numbers(channels, 30 * channels)
            second = list(first)
            second[14 * channels:16 * channels] = some_numbers(9, 2 * channels)
            sheets = [(1, first), (2, second), (3, first)]
            data = told(5, 6, channels, *sheets)
            self.assertEqual(data, second_film(5, 6, channels, sheets))
            self.assertEqual([letters for letters, _ in cut(data)[1:4]], [b"FULL", b"PART", b"PART"])

    def test_the_longest_lists(self):
        sheets = [(k, some_numbers(k, 440)) for k in range(64)]
        self.assertEqual(told(22, 20, 1, *sheets), second_film(22, 20, 1, sheets))
        sheets = [(k, some_numbers(k // 2, 440)) for k in range(64)]
        self.assertEqual(told(10, 11, 4, *sheets), second_film(10, 11, 4, sheets))

    def test_as_many_numbers_together_as_may_be(self):
        sheets = [(k, [k] * 4096) for k in range(64)]
        data = told(64, 64, 1, *sheets)
        self.assertEqual(data, second_film(64, 64, 1, sheets))
        sheets = [(9, some_numbers(1, 262144, [0, 0, 0, 0, 0, 5]))]
        self.assertEqual(told(256, 256, 4, *sheets), second_film(256, 256, 4, sheets))


class Refused(unittest.TestCase):
    def refuses(self, *handed):
        self.assertEqual(called(desk.film, *handed), [-8])

    def test_how_many_sheets(self):
        self.refuses(1, 1, 1, [])
        self.refuses(1, 1, 1, [[0], [0]] * 65)
        self.assertEqual(desk.film(1, 1, 1, [[0], [0]] * 64)[0], 19 + 64 * 16 + 12)

    def test_how_many_lists(self):
        self.refuses(1, 1, 1, [[0]])
        self.refuses(1, 1, 1, [[0], [0], [0]])
        self.refuses(1, 1, 1, [[0]] * 129)

    def test_a_time(self):
        for time in ([], [0, 0], [65536], [70000]):
            self.refuses(1, 1, 1, [time, [0]])
            self.refuses(1, 1, 1, [[0], [0], time, [0]])
            self.refuses(1, 1, 1, [time, [0], [0], [0]])

    def test_numbers(self):
        for numbers in ([], [0] * 3, [0] * 5, [0, 0, 0, 65536], [70000, 0, 0, 0], [0] * 440):
            self.refuses(2, 2, 1, [[0], numbers])
            self.refuses(2, 2, 1, [[0], [0] * 4, [0], numbers, [0], [0] * 4])
            self.refuses(2, 2, 1, [[0], [0] * 4, [0], numbers])

    def test_the_size(self):
        for wide, high in TOO_SMALL_OR_GREAT:
            self.refuses(wide, high, 1, [[0], [0] * (wide * high)])
        for wide, high in ((OVER, 1), (1, OVER), (OVER, OVER)):
            self.refuses(wide, high, 1, [[0], [0]])

    def test_the_channels(self):
        for channels in (0, 5, OVER):
            self.refuses(1, 1, channels, [[0], [0] * min(channels, 5)])

    def test_too_many_numbers_together(self):
        self.refuses(64, 65, 1, [[0], [0] * 4160] * 64)
        # Just one too many.
        self.refuses(185, 109, 1, [[0], [0] * (185 * 109)] * 13)
        self.refuses(256, 256, 1, [[0], [0] * 65536] * 5)
        self.refuses(1024, 64, 4, [[0], [0] * 262144] * 2)
        self.refuses(1, 1024, 4, [[0], [0] * 4096] * 65)


if __name__ == "__main__":
    unittest.main()
