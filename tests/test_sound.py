"""Point 15 of DOC.md: sound."""

import itertools
import math
import struct
import unittest

from helper import DONE, OVER, called, cut, piece, second_sound, some_samples, sound_head, text_of
from shownback import desk


def told(rate, samples):
    return text_of(called(desk.sound, rate, samples))


def parts(samples, rate=8000):
    """What stands in the pieces PART."""
    pieces = cut(told(rate, samples))
    assert pieces[0] == (b"HEAD", struct.pack("<I", rate) + struct.pack("<I", len(samples))[:3])
    assert pieces[-1] == (b"DONE", b"") and all(letters == b"PART" for letters, _ in pieces[1:-1])
    return [list(content) for _, content in pieces[1:-1]]


class Files(unittest.TestCase):
    def test_one_sample(self):
        wanted = piece(b"HEAD", bytes([64, 31, 0, 0, 1, 0, 0])) + piece(b"PART", bytes([0, 73])) + DONE
        self.assertEqual(told(8000, [5]), wanted)

    def test_the_bytes_as_they_are_written_out(self):
        answer = called(desk.sound, 1000000, [0])
        self.assertEqual(answer[:16], [45, 72, 69, 65, 68, 7, 0, 0, 0, 64, 66, 15, 0, 1, 0, 0])
        self.assertEqual(answer[20:30], [80, 65, 82, 84, 2, 0, 0, 0, 0, 0])

    def test_the_head(self):
        for rate, many, content in ((1, 1, [1, 0, 0, 0, 1, 0, 0]), (44100, 300, [68, 172, 0, 0, 44, 1, 0]),
                                    (1000000, 65536, [64, 66, 15, 0, 0, 0, 1]),
                                    (65536, 65535, [0, 0, 1, 0, 255, 255, 0])):
            self.assertEqual(cut(told(rate, [0] * many))[0], (b"HEAD", bytes(content)))

    def test_how_many_pieces(self):
        for many, wanted in ((1, 1), (4095, 1), (4096, 1), (4097, 2), (8192, 2), (8193, 3), (60000, 15), (65536, 16)):
            self.assertEqual(len(parts([0] * many)), wanted)

    def test_4096_and_4097(self):
        self.assertEqual(parts([0] * 4096), [[0] + [63] * 64])
        self.assertEqual(parts([0] * 4096 + [7]), [[0] + [63] * 64, [0, 77]])


class Orders(unittest.TestCase):
    def test_order_0(self):
        self.assertEqual(parts([1, -1, 1, -1]), [[0, 65, 64, 65, 64]])
        self.assertEqual(parts([0, 0, 9, 0]), [[0, 1, 81, 0]])

    def test_order_1(self):
        self.assertEqual(parts([20, 21, 20, 22]), [[1, 103, 65, 64, 67]])

    def test_order_2(self):
        self.assertEqual(parts([10, 20, 30, 40, 51]), [[2, 83, 2, 65]])

    def test_order_3(self):
        # Squares: their second differences are all the same.
        squares = [k * k for k in range(1, 12)]
        self.assertEqual(parts(squares), [[3, 65, 65, 8]])

    def test_of_several_the_first(self):
        # One sample alone is the same in each order.
        self.assertEqual(parts([7]), [[0, 77]])
        self.assertEqual(parts([-32768]), [[0, 192, 255, 255]])
        self.assertEqual(parts([0] * 5), [[0, 4]])
        # 5, 5: 10 as they are, 5 and 0 by order 1, 5 and -5 by order 2.
        self.assertEqual(parts([5, 5]), [[1, 73, 0]])
        # 1, 2: 3 as they are, 1 and 1 by order 1, 1 and 0 by order 2, 1 and -1 by order 3.
        self.assertEqual(parts([1, 2]), [[2, 65, 0]])
        # 0, 3, 5: 8, then 3 and 2, then 3 and -1, then 3 and -4: order 2, and 0, 2, 3: 5, 3, 3, 5: order 1.
        self.assertEqual(parts([0, 3, 5]), [[2, 0, 69, 64]])
        self.assertEqual(parts([0, 2, 3]), [[1, 0, 67, 65]])
        # 0, 1, 1: 2, then 1 and 0; and 0, 0, 1: all orders have 1, the first is taken.
        self.assertEqual(parts([0, 0, 1]), [[0, 1, 65]])

    def test_going_round(self):
        # 32767 to -32768 is one step up by rests of 2^16, in the sums of sizes too.
        self.assertEqual(parts([32767, -32768, -32767]), [[1, 192, 254, 255, 65, 65]])
        # -32768 and 32767: 1 less, and once more less: 32769, which is -32767.
        self.assertEqual(parts([-32768, 32767]), [[1, 192, 255, 255, 64]])
        self.assertEqual(parts([0, -32768, 0]), [[0, 0, 192, 255, 255, 0]])
        # Each time 32769 less, which is 32767 more.
        self.assertEqual(parts([32767, -2, 32765, -4]), [[2, 192, 254, 255, 2]])

    def test_differences_of_differences_go_round(self):
        samples = [(k * k * 500 + 32768) % 65536 - 32768 for k in range(40)]
        self.assertEqual(told(1, samples), second_sound(1, samples))
        self.assertEqual(parts(samples)[0][0], 3)

    def test_a_later_piece_begins_anew_from_0(self):
        samples = [1000 + k % 2 for k in range(4096)] + [1001, 1000, 1002]
        self.assertEqual(parts(samples)[1], [1, 135, 145, 64, 67])
        ramp = list(range(4096)) + [4096, 4097, 4098, 4099]
        # Order 1: 4096, 1, 1, 1; order 2: 4096, -4095, 0, 0.
        self.assertEqual(parts(ramp)[1], [1, 159, 191, 65, 65, 65])

    def test_each_piece_has_its_own_order(self):
        samples = [(-1) ** k for k in range(4096)] + [500 + k % 3 for k in range(4096)]
        samples += [3 * k - 6000 for k in range(4096)]
        self.assertEqual([content[0] for content in parts(samples)], [0, 1, 2])

    def test_the_least_and_the_greatest(self):
        for samples in ([-32768, 32767], [32767, -32768], [32767] * 5, [-32768] * 5, [-32768, 0, 32767, 0] * 20):
            self.assertEqual(told(1, samples), second_sound(1, samples))


class Held(unittest.TestCase):
    def test_against_a_second_telling(self):
        for seed, many in enumerate([1, 2, 3, 4, 5, 10, 64, 65, 130, 4095, 4096, 4097, 9000]):
            for most in (32767, 1000, 30, 1):
                with self.subTest(many=many, most=most):
                    samples = some_samples(seed, many, most)
                    self.assertEqual(told(seed + 1, samples), second_sound(seed + 1, samples))

    def test_all_short_rows(self):
        rows = [[]]
        for _ in range(4):
            rows = [row + [sample] for row in rows for sample in (0, 1, -1, 5, 32767, -32768)]
            for row in rows:
                self.assertEqual(text_of(desk.sound(9, row)), second_sound(9, row), row)

    def test_waves(self):
        for step in (0.001, 0.01, 0.05, 0.3, 1.5, 3.0):
            for loud in (5, 300, 32767):
                samples = [round(math.sin(k * step) * loud) for k in range(5000)]
                self.assertEqual(told(44100, samples), second_sound(44100, samples))

    def test_all_orders_are_chosen_somewhere(self):
        chosen = set()
        walk = list(itertools.accumulate(some_samples(1, 4000, 100)))
        for samples in (some_samples(2, 4000, 5000), walk, [7 * k - 9000 for k in range(4000)],
                        [round(math.sin(k * 0.01) * 20000) for k in range(4000)]):
            chosen.add(parts(samples)[0][0])
        self.assertEqual(chosen, {0, 1, 2, 3})

    def test_the_longest_lists(self):
        for many in (60000, 65536):
            samples = some_samples(many, many)
            self.assertEqual(told(48000, samples), second_sound(48000, samples))
        self.assertEqual(told(1, [-32768] * 60000), second_sound(1, [-32768] * 60000))


class Refused(unittest.TestCase):
    def refuses(self, *handed):
        self.assertEqual(called(desk.sound, *handed), [-8])

    def test_the_rate(self):
        for rate in (0, 1000001, 2 ** 32, OVER):
            self.refuses(rate, [0])
        for rate in (1, 1000000):
            self.assertEqual(told(rate, [0]), sound_head(rate, 1) + piece(b"PART", b"\0\0") + DONE)

    def test_how_many_samples(self):
        self.refuses(1, [])
        self.refuses(1, [0] * 65537)

    def test_a_sample(self):
        for over in (32768, 40000, -32769, -40000, 2 ** 63 - 1, -2 ** 63):
            self.refuses(1, [over])
            self.refuses(1, [0, over, 0])
            self.refuses(1, [0] * 59999 + [over])


if __name__ == "__main__":
    unittest.main()
