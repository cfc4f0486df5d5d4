"""Point 9 of DOC.md: table."""

import random
import unittest

from helper import OVER, bits_of, called, finite_bits, second_table, text_of
from shownback import desk

INFINITE = 2047 << 52
SIGN = 1 << 63


def told(names, *lines):
    """The text of a table of names and floats."""
    handed = [list(name.encode()) for name in names] + [[bits_of(float(number)) for number in line] for line in lines]
    return text_of(called(desk.table, len(names), handed)).decode()


def name_of(chance):
    return "".join(chr(chance.randrange(33, 127)) for _ in range(chance.randrange(1, 33)))


class Tables(unittest.TestCase):
    def test_the_bytes_as_they_are_written_out(self):
        answer = desk.table(2, [[97], [98, 99], [bits_of(10.0), bits_of(1.0)]])
        line = [32, 97, 32, 32, 98, 99, 10, 45, 45, 45, 45, 45, 45, 10, 49, 48, 32, 32, 32, 49, 10]
        self.assertEqual(answer, [21] + line)

    def test_one_column_and_no_line(self):
        self.assertEqual(told(["a"]), "a\n-\n")
        self.assertEqual(told(["abc"]), "abc\n---\n")

    def test_no_line_and_several_columns(self):
        self.assertEqual(told(["a", "bb", "c"]), "a  bb  c\n--------\n")

    def test_one_column(self):
        self.assertEqual(told(["x"], [1], [-20], [3.5]), "  x\n---\n  1\n-20\n3.5\n")

    def test_names_longer_than_the_numbers(self):
        self.assertEqual(told(["length", "high"], [1, 2], [30, 40]),
                         "length  high\n------------\n     1     2\n    30    40\n")

    def test_numbers_longer_than_the_names(self):
        self.assertEqual(told(["a", "b"], [1000000, 0.25], [1, -0.125]),
                         "      a       b\n---------------\n1000000    0.25\n      1  -0.125\n")

    def test_as_long(self):
        self.assertEqual(told(["abc", "de"], [1.5, 10]), "abc  de\n-------\n1.5  10\n")

    def test_numbers_in_each_form(self):
        wanted = "      v\n-------\n   1200\n0.00001\n   12.5\n   1e17\n-1.5e-9\n      0\n"
        self.assertEqual(told(["v"], [1200], [0.00001], [12.5], [1e17], [-1.5e-9], [0]), wanted)

    def test_minus_nought_is_nought(self):
        self.assertEqual(told(["v"], [-0.0]), "v\n-\n0\n")

    def test_names_of_every_byte(self):
        for byte in range(33, 127):
            self.assertEqual(called(desk.table, 1, [[byte]]), [4, byte, 10, 45, 10])

    def test_names_that_are_alike_or_look_like_numbers(self):
        self.assertEqual(told(["1", "1", "--"], [1, 1, 1]), "1  1  --\n--------\n1  1   1\n")

    def test_a_name_of_32_bytes(self):
        self.assertEqual(told(["n" * 32], [5]), "n" * 32 + "\n" + "-" * 32 + "\n" + " " * 31 + "5\n")

    def test_sixteen_columns_and_256_lines(self):
        names = ["c%d" % k for k in range(16)]
        lines = [[k * 16 + j for j in range(16)] for k in range(256)]
        wanted = second_table(names, [[bits_of(float(number)) for number in line] for line in lines]).decode()
        self.assertEqual(told(names, *lines), wanted)
        self.assertEqual(wanted.count("\n"), 258)


class Held(unittest.TestCase):
    def test_against_a_second_telling(self):
        chance = random.Random(8)
        for n in list(range(1, 17)) * 3:
            names = [name_of(chance) for _ in range(n)]
            lines = [[finite_bits(chance) for _ in range(n)] for _ in range(chance.choice([0, 1, 2, 5, 20]))]
            handed = [list(name.encode()) for name in names] + lines
            self.assertEqual(text_of(called(desk.table, n, handed)), second_table(names, lines))

    def test_the_longest(self):
        chance = random.Random(9)
        names = ["~" * 32] * 16
        lines = [[SIGN + bits_of(2.2250738585072014e-308) if chance.randrange(2) else finite_bits(chance)
                  for _ in range(16)] for _ in range(256)]
        handed = [list(name.encode()) for name in names] + lines
        self.assertEqual(text_of(called(desk.table, 16, handed)), second_table(names, lines))


class Refused(unittest.TestCase):
    def refuses(self, *handed):
        self.assertEqual(called(desk.table, *handed), [-8])

    def test_how_many_columns(self):
        self.refuses(0, [])
        self.refuses(0, [[]])
        self.refuses(0, [[97]])
        self.refuses(17, [[97]] * 17)
        self.refuses(17, [[97]] * 17 + [[0] * 17])
        self.refuses(300, [[97]] * 300)
        self.refuses(OVER, [[97]])
        self.assertEqual(desk.table(16, [[97]] * 16)[0], 2 * (16 + 30 + 1))

    def test_fewer_names_than_columns(self):
        self.refuses(1, [])
        self.refuses(2, [[97]])
        self.refuses(16, [[97]] * 15)

    def test_the_length_of_a_name(self):
        for name in ([], [97] * 33, [97] * 40):
            self.refuses(1, [name])
            self.refuses(3, [[97], name, [97]])
            self.refuses(3, [[97], [97], name, [0, 0, 0]])

    def test_the_bytes_of_a_name(self):
        for byte in [0, 1, 9, 10, 13, 27, 31, 32, 127, 128, 160, 255, 256, 300, OVER]:
            self.refuses(1, [[byte]])
            self.refuses(2, [[97], [97, byte, 97]])
            self.refuses(2, [[97] * 31 + [byte], [97], [0, 0]])

    def test_how_many_lines(self):
        self.assertEqual(desk.table(1, [[97]] + [[0]] * 256)[0], 258 * 2)
        self.refuses(1, [[97]] + [[0]] * 257)
        self.refuses(1, [[97]] + [[0]] * 299)
        self.refuses(16, [[97]] * 16 + [[0] * 16] * 257)

    def test_how_many_numbers_in_a_line(self):
        for many in (0, 1, 3, 16, 40):
            self.refuses(2, [[97], [98], [0] * many])
            self.refuses(2, [[97], [98], [0, 0], [0] * many])
            self.refuses(2, [[97], [98], [0] * many, [0, 0]])
        self.refuses(1, [[97], []])

    def test_what_is_no_finite_number(self):
        for bits in (INFINITE, INFINITE + 1, SIGN - 1, SIGN + INFINITE, SIGN + INFINITE + 1, OVER):
            self.refuses(1, [[97], [bits]])
            self.refuses(2, [[97], [98], [0, 0], [0, bits]])
            self.refuses(2, [[97], [98], [bits, 0], [0, 0]])


if __name__ == "__main__":
    unittest.main()
