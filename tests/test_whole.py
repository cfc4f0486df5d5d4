"""The whole program: each of the eighteen calls at the edges of what may be handed in, and what's shown read back."""

import inspect
import itertools
import random
import unittest

from helper import OVER, bits_of, called, second_blocks, second_dots, second_still, second_sum, some_numbers
from helper import some_samples, text_of
from shownback import desk

CALLS = ["blocks", "unblocks", "dots", "undots", "bars", "unbars", "decimal", "undecimal", "table", "untable", "still",
         "unstill", "film", "unfilm", "sound", "unsound", "sum_of", "joined"]
READING = ["unblocks", "undots", "unbars", "untable", "unstill", "unsound"]
GREATEST = (2047 << 52) - 1
SIGN = 1 << 63
LOWEST = [0, 1, 2]
HIGHEST = [OVER, OVER - 1, SIGN, SIGN - 1, 2 ** 32, 2 ** 32 - 1, 65536, 65535]


class Edges(unittest.TestCase):
    def refuses(self, call, *handed):
        self.assertEqual(called(call, *handed), [-8])

    def test_all_eighteen_are_there(self):
        own = [name for name, call in inspect.getmembers(desk, inspect.isfunction) if call.__module__ == desk.__name__]
        self.assertLessEqual(set(CALLS), set(own))
        self.assertEqual(len(CALLS), 18)

    def test_blocks(self):
        numbers = some_numbers(1, 58000)
        text = text_of(called(desk.blocks, 1000, 58, 1, 0, 255, 0, numbers))
        self.assertEqual(text, second_blocks(1000, 58, 1, (0, 255, 0), numbers))
        for edge in HIGHEST:
            for place in range(6):
                handed = [1, 1, 1, 0, 0, 0]
                handed[place] = edge
                self.refuses(desk.blocks, *handed, [0])
        self.refuses(desk.blocks, 1000, 58, 1, 0, 0, 0, [70000] * 58000)
        self.refuses(desk.blocks, 1000, 58, 1, 0, 0, 0, [0] * 57999 + [65536])
        self.refuses(desk.blocks, 0, 0, 0, 0, 0, 0, [])

    def test_dots(self):
        numbers = some_numbers(2, 58000)
        self.assertEqual(text_of(called(desk.dots, 58, 1000, 1, 1, numbers)), second_dots(58, 1000, 1, numbers))
        for edge in HIGHEST:
            for place in range(4):
                handed = [1, 1, 1, 0]
                handed[place] = edge
                self.refuses(desk.dots, *handed, [0])
        self.refuses(desk.dots, 1000, 58, 1, 0, [70000] * 58000)
        self.refuses(desk.dots, 0, 0, 0, 0, [])

    def test_bars(self):
        self.assertEqual(called(desk.bars, 1000000, 512, 64, [-32768] * 60000)[0], (512 * 3 + 1) * 64)
        self.assertEqual(called(desk.bars, 1, 1, 1, [0]), [2, 32, 10])
        for edge in HIGHEST:
            for place in range(3):
                handed = [1, 1, 1]
                handed[place] = edge
                if handed[0] > 1000000 or place:
                    self.refuses(desk.bars, *handed, [0])
        self.refuses(desk.bars, 0, 0, 0, [])
        self.refuses(desk.bars, 1, 1, 1, [-40000] * 60000)
        self.refuses(desk.bars, 1, 1, 1, [40000] * 60000)

    def test_decimal(self):
        for bits in LOWEST + [GREATEST, SIGN, SIGN + 1, SIGN + GREATEST]:
            answer = called(desk.decimal, bits)
            self.assertEqual(answer[0], len(answer) - 1)
            self.assertEqual(called(desk.undecimal, answer[1:]), [0, bits if bits != SIGN else 0])
        for bits in (GREATEST + 1, SIGN - 1, SIGN + GREATEST + 1, OVER):
            self.refuses(desk.decimal, bits)

    def test_table(self):
        lines = [[SIGN + 2 ** 52] * 16] * 256
        answer = called(desk.table, 16, [[126] * 32] * 16 + lines)
        self.assertEqual(answer[0], (16 * 32 + 30 + 1) * 258)
        self.refuses(desk.table, 16, [[126] * 32] * 16 + lines + [[0] * 16])
        self.refuses(desk.table, OVER, [[OVER] * 40] * 300)
        self.refuses(desk.table, 16, [[97] * 40] * 300)
        self.refuses(desk.table, 0, [])

    def test_still_and_film(self):
        numbers = some_numbers(3, 58000)
        self.assertEqual(text_of(called(desk.still, 100, 145, 4, numbers)), second_still(100, 145, 4, numbers))
        for edge in HIGHEST:
            for place in range(3):
                handed = [1, 1, 1]
                handed[place] = edge
                self.refuses(desk.still, *handed, [0])
                self.refuses(desk.film, *handed, [[0], [0]])
        self.refuses(desk.still, 1000, 58, 1, [70000] * 58000)
        self.refuses(desk.film, 1, 1, 1, [[0]] * 130)
        self.refuses(desk.film, 20, 22, 1, [[70000], [70000] * 440] * 64)
        self.refuses(desk.film, 20, 22, 1, [[0] * 440] * 128)
        self.assertEqual(called(desk.film, 20, 22, 1, [[65535], [65535] * 440] * 64)[1:5], list(b"HEAD"))

    def test_sound(self):
        samples = some_samples(4, 60000)
        data = called(desk.sound, 1000000, samples)[1:]
        self.assertEqual(called(desk.unsound, data), [0, 1000000, 60000] + samples)
        for edge in HIGHEST[:-2]:
            self.refuses(desk.sound, edge, [0])
        self.refuses(desk.sound, 1, [40000] * 60000)
        self.refuses(desk.sound, 1, [-40000] * 60000)
        self.refuses(desk.sound, 0, [])

    def test_sums(self):
        self.assertEqual(called(desk.sum_of, [255] * 100000), [0, second_sum([255] * 100000)])
        self.refuses(desk.sum_of, [300] * 100000)
        for place in range(3):
            for edge in (OVER, 2 ** 32):
                handed = [2 ** 32 - 1] * 3
                handed[place] = edge
                self.refuses(desk.joined, *handed)
        self.assertEqual(called(desk.joined, 0, 0, 2 ** 32 - 1), [0, 0])

    def test_what_reads_is_refused_for_what_is_above_255(self):
        for name in READING:
            for many in (1, 100, 65536):
                self.refuses(getattr(desk, name), [300] * many)
                self.refuses(getattr(desk, name), [0] * (many - 1) + [256])
        self.refuses(desk.undecimal, [300] * 100)
        self.refuses(desk.unfilm, 0, [300] * 100000)
        self.refuses(desk.unfilm, OVER, [])

    def test_what_reads_ends_whatever_is_handed_in(self):
        chance = random.Random(27)
        texts = [[]] + [[byte] * many for byte in (0, 10, 27, 32, 45, 48, 72, 97, 192, 226,
                        255) for many in (1, 63, 65536)]
        texts += [[chance.randrange(256) for _ in range(many)] for many in (1, 5, 100, 65536)]
        for name in READING:
            for text in texts:
                answer = called(getattr(desk, name), text)
                refused = [-100] if name in ("unstill", "unsound") else [-4]
                self.assertTrue(answer == refused or answer[0] == 0, (name, text[:10], answer[:10]))


class ReadBack(unittest.TestCase):
    def test_one_sheet_in_all_ways(self):
        numbers = some_numbers(5, 24 * 16 * 3)
        shown = desk.unblocks(desk.blocks(24, 16, 3, 9, 8, 7, numbers)[1:])
        self.assertEqual(shown, [0, 24, 16] + [number // 256 for number in numbers])
        self.assertEqual(desk.unstill(desk.still(24, 16, 3, numbers)[1:]), [0, 24, 16, 3] + numbers)
        data = desk.film(24, 16, 3, [[7], numbers, [8], numbers[::-1]])[1:]
        self.assertEqual(desk.unfilm(0, data), [0, 7, 24, 16, 3] + numbers)
        self.assertEqual(desk.unfilm(1, data), [0, 8, 24, 16, 3] + numbers[::-1])
        grey = some_numbers(6, 24 * 16)
        on = desk.undots(desk.dots(24, 16, 1, 0, grey)[1:])
        off = desk.undots(desk.dots(24, 16, 1, 1, grey)[1:])
        self.assertEqual(on[:3], off[:3])
        self.assertEqual([1 - point for point in on[3:]], off[3:])

    def test_one_row_in_all_ways(self):
        samples = some_samples(7, 5000)
        self.assertEqual(desk.unsound(desk.sound(8000, samples)[1:]), [0, 8000, 5000] + samples)
        heights = desk.unbars(desk.bars(8000, 100, 8, samples)[1:])[3:]
        wanted = [(max(map(abs, samples[50 * k:50 * k + 50])) * 64 + 16384) // 32768 for k in range(100)]
        self.assertEqual(heights, wanted)

    def test_measures_in_a_table(self):
        lines = [[bits_of(k / 7), bits_of(-k * 1e30), bits_of(float(k))] for k in range(100)]
        lines[0][1] = 0
        names = [list(b"seventh"), list(b"great"), list(b"k")]
        told = desk.untable(desk.table(3, names + lines)[1:])
        wanted = [0, 3, 100] + [number for name in names for number in [len(name)] + name]
        self.assertEqual(told, wanted + list(itertools.chain(*lines)))

    def test_the_sum_of_a_file_by_its_pieces(self):
        data = desk.still(9, 9, 2, some_numbers(8, 162))[1:]
        for at in (0, 17, len(data) // 2, len(data)):
            one, other = desk.sum_of(data[:at])[1], desk.sum_of(data[at:])[1]
            self.assertEqual(desk.joined(one, other, len(data) - at), desk.sum_of(data))


if __name__ == "__main__":
    unittest.main()
