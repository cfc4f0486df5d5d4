"""Point 16 of DOC.md: unsound."""

import random
import unittest

from helper import DONE, SpoiledFiles, called, cut, piece, second_sound, second_unsound, some_samples, sound_head
from helper import text_of
from shownback import desk

MOST = 2097152


def read(data):
    return called(desk.unsound, list(data))


def part(*content):
    return piece(b"PART", bytes(content))


class ReadBack(unittest.TestCase):
    def test_by_hand(self):
        self.assertEqual(read(sound_head(8000, 1) + part(0, 73) + DONE), [0, 8000, 1, 5])
        self.assertEqual(read(sound_head(1, 3) + part(0, 64, 0, 65) + DONE), [0, 1, 3, -1, 0, 1])
        self.assertEqual(read(sound_head(1, 3) + part(1, 67, 67, 66) + DONE), [0, 1, 3, 2, 4, 2])
        self.assertEqual(read(sound_head(1, 4) + part(2, 65, 0, 65, 0) + DONE), [0, 1, 4, 1, 2, 4, 6])
        self.assertEqual(read(sound_head(1, 4) + part(3, 65, 2) + DONE), [0, 1, 4, 1, 3, 6, 10])

    def test_what_sound_tells(self):
        for seed, many in enumerate([1, 2, 3, 10, 64, 65, 4095, 4096, 4097, 8192, 8193, 12000]):
            for most in (32767, 500, 3):
                with self.subTest(many=many, most=most):
                    samples = some_samples(seed, many, most)
                    data = text_of(desk.sound(seed + 1, samples))
                    self.assertEqual(read(data), [0, seed + 1, many] + samples)

    def test_any_order(self):
        for seed in range(20):
            samples = some_samples(seed, 50, 32767 if seed % 2 else 40)
            for order in range(4):
                self.assertEqual(read(second_sound(9, samples, [order])), [0, 9, 50] + samples)
        samples = some_samples(1, 9000)
        for orders in ([0, 1, 2], [3, 2, 1], [3, 3, 3]):
            self.assertEqual(read(second_sound(9, samples, orders)), [0, 9, 9000] + samples)

    def test_going_round(self):
        self.assertEqual(read(sound_head(1, 2) + part(1, 192, 254, 255, 65) + DONE), [0, 1, 2, 32767, -32768])
        self.assertEqual(read(sound_head(1, 2) + part(1, 192, 255, 255, 64) + DONE), [0, 1, 2, -32768, 32767])
        # 32767 each, then 32767, -2, 32765, then 32767, 32765, -6.
        self.assertEqual(read(sound_head(1, 3) + part(3, 192, 254, 255, 1) + DONE), [0, 1, 3, 32767, 32765, -6])

    def test_each_piece_begins_anew_from_0(self):
        data = sound_head(5, 4097) + part(1, 65, *[63] * 63, 62) + part(1, 67) + DONE
        self.assertEqual(read(data), [0, 5, 4097] + [1] * 4096 + [2])

    def test_the_edges_of_rate_and_samples(self):
        for rate in (1, 65536, 1000000):
            self.assertEqual(read(sound_head(rate, 1) + part(0, 0) + DONE), [0, rate, 1, 0])
        full = part(2, *[63] * 64)
        self.assertEqual(read(sound_head(1, 65536) + full * 16 + DONE), [0, 1, 65536] + [0] * 65536)
        self.assertEqual(read(sound_head(1, 4096) + full + DONE), [0, 1, 4096] + [0] * 4096)

    def test_the_longest_files(self):
        samples = some_samples(3, 36000)
        data = text_of(desk.sound(44100, samples))
        self.assertTrue(90000 < len(data) <= 100000, len(data))
        self.assertEqual(read(data), [0, 44100, 36000] + samples)
        samples = some_samples(4, 65536)
        self.assertEqual(read(text_of(desk.sound(44100, samples))), [0, 44100, 65536] + samples)


class WrongPieces(SpoiledFiles, unittest.TestCase):
    def reads(self, data):
        return [read(data)]

    def setUp(self):
        data = sound_head(8000, 8195) + part(0, *[63] * 64) + part(1, 65, *[63] * 63, 62)
        self.set_data(data + part(2, 65, 128, 9, 0) + DONE)
        self.assertEqual(read(self.data), [0, 8000, 8195] + [0] * 4096 + [1] * 4096 + [1, 39, 77])

    def test_the_head(self):
        for rate, many in ((0, 8195), (1000001, 8195), (2 ** 32 - 1, 8195), (8000, 0), (8000, 65537),
                           (8000, 2 ** 24 - 1)):
            self.wrong(0, self.instead(0, sound_head(rate, many)))
        right = cut(self.pieces[0])[0][1]
        for content in (b"", right[:4], right[:-1], right + b"\0", right * 2):
            self.wrong(0, self.instead(0, piece(b"HEAD", content)))

    def test_another_order(self):
        for order in (4, 5, 63, 64, 255):
            self.wrong(3, self.instead(3, part(order, 2)))
            self.wrong(1, self.instead(1, part(order, *[63] * 64)))
        for order in range(4):
            self.assertEqual(read(self.instead(3, part(order, 2)))[0], 0)

    def test_numbers_kept_otherwise(self):
        for kept in ((0, 1), (1, 0), (0, 0, 0), (65, 0, 0), (1, 192, 0, 0), (1, 192, 1, 0), (1, 192, 64, 64), (1, 193),
                     (1, 193, 255, 255), (1, 255), (1, 255, 255, 255)):
            self.wrong(3, self.instead(3, part(0, *kept)))
        self.wrong(1, self.instead(1, part(0, *[63] * 63, 62, 0)))
        self.wrong(1, self.instead(1, part(0, *[31] * 128)))

    def test_too_few_or_too_many_numbers(self):
        for kept in ((), (1,), (3,), (65, 65), (65, 65, 65, 65), (2, 0), (2, 65), (65, 2), (1, 128), (1, 192),
                     (1, 192, 255),
                     (63,), (65, 65, 65, 0)):
            self.wrong(3, self.instead(3, part(0, *kept)))
        self.wrong(3, self.instead(3, part()))
        self.wrong(1, self.instead(1, part(0, *[63] * 63)))
        self.wrong(1, self.instead(1, part(0, *[63] * 65)))
        self.wrong(2, self.instead(2, part(0, *[63] * 64, 0)))

    def test_parts_of_another_length(self):
        # 8195 samples in other parts than of 4096 each.
        self.wrong(1, sound_head(1, 128) + part(0, 63) + part(0, 63) + DONE)
        self.wrong(1, sound_head(1, 4097) + part(0, *[63] * 64, 0) + DONE)
        self.wrong(1, sound_head(1, 4097) + part(0, 0) + part(0, *[63] * 64) + DONE)

    def test_a_piece_that_lacks_or_is_too_much(self):
        self.wrong(3, b"".join(self.pieces[:3] + self.pieces[4:]))
        self.wrong(2, b"".join(self.pieces[:2] + self.pieces[3:]))
        self.wrong(4, b"".join(self.pieces[:4] + self.pieces[3:]))
        self.wrong(3, b"".join(self.pieces[:2] + self.pieces[1:]))
        self.wrong(1, self.pieces[0] + DONE)
        self.wrong(4, b"".join(self.pieces[:-1]))
        self.wrong(2, sound_head(1, 4096) + self.pieces[1] * 2 + DONE)
        self.wrong(0, b"".join(self.pieces[1:]))

    def test_other_files(self):
        self.wrong(0, text_of(desk.still(3, 2, 1, [0] * 6)))
        film = text_of(desk.film(64, 31, 1, [[0], [0] * 1984]))
        self.assertEqual(read(film), second_unsound(film))
        self.assertLess(desk.unstill(list(self.data))[0], -99)

    def test_the_longest_files(self):
        self.wrong(1, sound_head(1, 65536) + piece(b"PART", b"\0" * 99000))


class Held(unittest.TestCase):
    def test_spoiled_files_against_a_second_reading(self):
        chance = random.Random(20)
        answers = {}
        for seed in range(1500):
            many = chance.choice([1, 2, 5, 70, 4097])
            samples = some_samples(seed, many, 0 if many > 4096 else chance.choice([0, 9, 32767]))
            orders = chance.choice([None, [chance.randrange(4), chance.randrange(4)]])
            pieces = [list(one) for one in cut(second_sound(seed + 1, samples, orders))]
            for _ in range(chance.randrange(3)):
                one = chance.choice(pieces)
                at = chance.randrange(len(one[1]) + 1)
                more = bytes(chance.choices([0, 1, 2, 3, 62, 63, 65, 128, 192], k=chance.randrange(3)))
                one[1] = one[1][:at] + more + one[1][at + chance.choice([0, len(more), 1]):]
            if chance.randrange(8) == 0:
                pieces.insert(chance.randrange(len(pieces) + 1), list(chance.choice(pieces)))
            data = b"".join(piece(*one) for one in pieces)
            wanted = second_unsound(data)
            answers[wanted[0]] = answers.get(wanted[0], 0) + 1
            self.assertEqual(desk.unsound(list(data)), wanted, data)
        self.assertTrue(all(answers.get(answer, 0) > 20 for answer in (0, -100, -101, -102, -103)), answers)


class OutOfRange(unittest.TestCase):
    def refuses(self, numbers):
        self.assertEqual(called(desk.unsound, numbers), [-8])

    def test_something_above_255(self):
        data = list(sound_head(1, 1) + part(0, 65) + DONE)
        for over in (256, 300):
            for at in range(len(data)):
                self.refuses(data[:at] + [over] + data[at + 1:])
            self.refuses(data + [over])

    def test_also_where_the_file_is_wrong(self):
        self.refuses([256])
        self.refuses([0, 300])
        self.refuses([1] * 99999 + [256])

    def test_too_many_bytes(self):
        self.refuses([0] * (MOST + 1))
        self.assertEqual(desk.unsound([0] * MOST), [-100])


if __name__ == "__main__":
    unittest.main()
