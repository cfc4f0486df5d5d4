"""Point 17 of DOC.md: sum (here sum_of) and joined."""

import random
import unittest

from helper import OVER, called, second_joined, second_sum
from shownback import desk

MOST = 2097152
TOP = 2 ** 32


def sum_of(data):
    answer = called(desk.sum_of, list(data))
    assert len(answer) == 2 and answer[0] == 0
    return answer[1]


class Sums(unittest.TestCase):
    def test_nothing_at_all(self):
        self.assertEqual(called(desk.sum_of, []), [0, 0])

    def test_known_sums(self):
        self.assertEqual(called(desk.sum_of, list(b"123456789")), [0, 3808858755])
        self.assertEqual(called(desk.sum_of, [0] * 32), [0, 0x8A9136AA])
        self.assertEqual(called(desk.sum_of, [255] * 32), [0, 0x62A8AB43])
        self.assertEqual(called(desk.sum_of, list(range(32))), [0, 0x46DD794E])
        self.assertEqual(called(desk.sum_of, list(range(31, -1, -1))), [0, 0x113FDB5C])

    def test_one_byte_of_each_kind(self):
        for byte in range(256):
            self.assertEqual(sum_of([byte]), second_sum([byte]))
            self.assertEqual(sum_of([byte, 0, 255 - byte]), second_sum([byte, 0, 255 - byte]))

    def test_against_a_second_reckoning(self):
        chance = random.Random(21)
        for many in list(range(40)) + [100, 255, 256, 1000, 4097]:
            data = chance.randbytes(many)
            self.assertEqual(sum_of(data), second_sum(data))

    def test_long_lists(self):
        chance = random.Random(22)
        for data in (chance.randbytes(100000), bytes(100000), b"\xff" * 100000):
            self.assertEqual(sum_of(data), second_sum(data))

    def test_as_many_bytes_as_may_be(self):
        # Noughts, by joining them to themselves.
        wanted = second_sum(bytes(2))
        for power in range(1, 21):
            wanted = second_joined(wanted, wanted, 2 ** power)
        self.assertEqual(desk.sum_of([0] * MOST), [0, wanted])

    def test_refused(self):
        for over in (256, 300, OVER):
            for numbers in ([over], [0, over], [over, 0], [1] * 99999 + [over]):
                self.assertEqual(called(desk.sum_of, numbers), [-8])
        self.assertEqual(called(desk.sum_of, [0] * (MOST + 1)), [-8])


class Joined(unittest.TestCase):
    def test_the_sum_of_two_texts(self):
        chance = random.Random(23)
        for first in (0, 1, 2, 3, 4, 5, 8, 31, 100):
            for second in (0, 1, 2, 3, 4, 5, 7, 8, 9, 31, 64, 255, 256, 257, 1000):
                one, other = chance.randbytes(first), chance.randbytes(second)
                answer = called(desk.joined, second_sum(one), second_sum(other), second)
                self.assertEqual(answer, [0, second_sum(one + other)])

    def test_nothing_behind_and_nothing_before(self):
        for number in (0, 1, 3808858755, TOP - 1):
            self.assertEqual(called(desk.joined, number, 0, 0), [0, number])
            self.assertEqual(called(desk.joined, 0, number, 9), [0, number])
            self.assertEqual(called(desk.joined, 0, number, TOP - 1), [0, number])

    def test_cut_anywhere(self):
        data = b"123456789"
        for at in range(10):
            one, other = desk.sum_of(list(data[:at])), desk.sum_of(list(data[at:]))
            self.assertEqual(called(desk.joined, one[1], other[1], 9 - at), [0, 3808858755])

    def test_long_texts(self):
        chance = random.Random(24)
        data = chance.randbytes(100000)
        for at in (0, 1, 50000, 65536, 99999, 100000):
            one, other = desk.sum_of(list(data[:at])), desk.sum_of(list(data[at:]))
            self.assertEqual(called(desk.joined, one[1], other[1], 100000 - at), [0, second_sum(data)])

    def test_great_lengths_against_a_second_reckoning(self):
        chance = random.Random(25)
        lengths = [2 ** power + more for power in range(33) for more in (-1, 0, 1) if 2 ** power + more < TOP]
        for length in lengths + [chance.randrange(TOP) for _ in range(100)]:
            one, other = chance.randrange(TOP), chance.randrange(TOP)
            self.assertEqual(called(desk.joined, one, other, length), [0, second_joined(one, other, length)])

    def test_three_texts_either_way(self):
        chance = random.Random(26)
        for _ in range(100):
            one, two, three = [chance.randrange(TOP) for _ in range(3)]
            long, longer = chance.randrange(2 ** 31), chance.randrange(2 ** 31)
            left = desk.joined(desk.joined(one, two, long)[1], three, longer)
            right = desk.joined(one, desk.joined(two, three, longer)[1], long + longer)
            self.assertEqual(left, right)

    def test_the_edges(self):
        for one in (0, 1, TOP - 1):
            for other in (0, 1, TOP - 1):
                for length in (0, 1, TOP - 1):
                    answer = called(desk.joined, one, other, length)
                    self.assertEqual(answer, [0, second_joined(one, other, length)])

    def test_refused(self):
        for over in (TOP, TOP + 1, 2 ** 63, OVER):
            for handed in ((over, 0, 0), (0, over, 0), (0, 0, over), (over, over, over), (TOP - 1, TOP - 1, over)):
                self.assertEqual(called(desk.joined, *handed), [-8])


if __name__ == "__main__":
    unittest.main()
