"""Point 10 of DOC.md: untable."""

import random
import unittest

from helper import OVER, bits_of, called, finite_bits, second_table, text_of
from shownback import desk

SIGN = 1 << 63
MOST = 65536


def read(text):
    return called(desk.untable, list(text))


def wanted_of(names, lines):
    told = [0, len(names), len(lines)]
    for name in names:
        told += [len(name)] + list(name.encode())
    return told + [bits if bits != SIGN else 0 for line in lines for bits in line]


def name_of(chance, most=32):
    return "".join(chr(chance.randrange(33, 127)) for _ in range(chance.randrange(1, most + 1)))


class ReadBack(unittest.TestCase):
    def test_by_hand(self):
        self.assertEqual(read(b"a\n-\n"), [0, 1, 0, 1, 97])
        self.assertEqual(read(b"a  bc\n-----\n"), [0, 2, 0, 1, 97, 2, 98, 99])
        text = b"  x   yy\n--------\n1.5  -10\n 20    0\n"
        bits = [bits_of(1.5), bits_of(-10.0), bits_of(20.0), 0]
        self.assertEqual(read(text), [0, 2, 2, 1, 120, 2, 121, 121] + bits)

    def test_what_table_tells(self):
        chance = random.Random(10)
        for n in range(1, 17):
            for many in (0, 1, 2, 7):
                names = [name_of(chance) for _ in range(n)]
                lines = [[finite_bits(chance) for _ in range(n)] for _ in range(many)]
                text = text_of(desk.table(n, [list(name.encode()) for name in names] + lines))
                self.assertEqual(read(text), wanted_of(names, lines))

    def test_numbers_bit_for_bit(self):
        chance = random.Random(11)
        lines = [[1], [SIGN + 1], [(1 << 52) - 1], [1 << 52], [(2047 << 52) - 1], [SIGN + (2047 << 52) - 1], [0]]
        lines += [[finite_bits(chance)] for _ in range(240)]
        self.assertEqual(read(second_table(["bits"], lines)), wanted_of(["bits"], lines))

    def test_minus_nought_is_read_as_nought(self):
        text = text_of(desk.table(1, [[97], [SIGN]]))
        self.assertEqual(read(text), [0, 1, 1, 1, 97, 0])

    def test_names_that_look_like_numbers_or_dashes(self):
        for names in (["1", "2"], ["-", "--"], ["-0"], ["1e5", "e"], ["~!"], ["n" * 32]):
            lines = [[bits_of(1.0)] * len(names)]
            self.assertEqual(read(second_table(names, lines)), wanted_of(names, lines))
            self.assertEqual(read(second_table(names, [])), wanted_of(names, []))

    def test_sixteen_columns_and_256_lines(self):
        names = ["c%d" % k for k in range(16)]
        lines = [[bits_of(float(k * j)) for j in range(16)] for k in range(256)]
        text = second_table(names, lines)
        self.assertLessEqual(len(text), MOST)
        self.assertEqual(read(text), wanted_of(names, lines))
        self.assertEqual(read(second_table(["x"], [[0]] * 256)), wanted_of(["x"], [[0]] * 256))

    def test_a_long_text(self):
        names = ["n" * 16] * 14 + ["n" * 2]
        lines = [[bits_of(0.12345678901234)] * 15] * 240
        text = second_table(names, lines)
        self.assertTrue(60000 < len(text) <= MOST, len(text))
        self.assertEqual(read(text), wanted_of(names, lines))

    def test_exactly_as_many_bytes_as_may_be(self):
        # 256 bytes a line, 256 lines with the names and the dashes.
        names = ["n" * 32] * 7 + ["n" * 3]
        rooms = 255 - 2 * (len(names) - 1)
        self.assertEqual(rooms, 32 * 7 + 17)
        lines = [[0] * 7 + [bits_of(12345678901234568.0)]] * 254
        text = second_table(names, lines)
        self.assertEqual(len(text), MOST)
        self.assertEqual(read(text), wanted_of(names, lines))


class NoTable(unittest.TestCase):
    def refuses(self, text):
        with self.subTest(text=text[:80]):
            self.assertEqual(read(text), [-4])

    def test_nothing_at_all(self):
        self.refuses(b"")

    def test_cut_off(self):
        text = second_table(["abc", "x"], [[bits_of(1.5), bits_of(20.0)], [bits_of(-7.0), 0]])
        ends = {at + 1 for at, byte in enumerate(text) if byte == 10}
        for many in range(len(text)):
            if many not in ends:
                self.refuses(text[:many])
        self.refuses(text[:text.index(b"\n") + 1])
        for many in range(1, text.index(b"\n") + 2):
            self.refuses(text[many:])

    def test_a_column_narrower_for_what_was_cut_off(self):
        # The longest number is in the last line: without it the room is too much.
        text = b"   a\n----\n   1\n1000\n"
        self.assertEqual(read(text)[0], 0)
        self.refuses(text[:15])
        self.assertEqual(read(b"a\n-\n1\n")[0], 0)

    def test_something_behind_or_before(self):
        text = b"ab\n--\n 1\n"
        for more in (b"\n", b" ", b"\r", b"1", b"--\n", b"\x00", b"1\n", b"a\n", b"  \n", b" 1 2\n", b"ab\n--\n"):
            self.refuses(text + more)
        for more in (b"\n", b" ", b"a", b"\x00", b"--\n", b"ab\n", b"\xef\xbb\xbf"):
            self.refuses(more + text)

    def test_line_feeds(self):
        for text in (b"\n", b"\n\n", b"\n\n\n", b"a\n", b"a\n\n", b"a\n-", b"a\n-\n\n", b"a\n\n-\n", b"\na\n-\n",
                     b"a-\n",
                     b"a\n-\n1", b"a\n-\n1\n\n", b"a\n-\n\n1\n", b"a\r\n-\r\n", b"a\n-1\n"):
            self.refuses(text)

    def test_blanks(self):
        for text in (b"a b\n---\n", b"a   b\n-----\n", b" a\n--\n", b"a \n--\n", b"a  b \n-----\n", b" a  b\n-----\n",
                     b"a  b\n----\n1 2\n", b"a  b\n----\n1   2\n", b"a  b\n----\n 1  2\n", b"a  b\n----\n1  2 \n",
                     b"ab\n--\n1 \n", b"ab\n--\n1\n", b"ab\n--\n  1\n", b"a\n-\n \n", b" \n-\n", b"\t\n-\n",
                     b"a\tb\n---\n"):
            self.refuses(text)

    def test_names_and_numbers_at_the_left(self):
        self.refuses(b"a  \n---\n100\n")
        self.refuses(b"abc\n---\n1  \n")

    def test_the_line_of_dashes(self):
        for dashes in (b"", b"-", b"---", b"=-", b"-=", b"- ", b" -", b"__", b"-- ", b"--\n", b"-\xe2", b"1", b"aa"):
            self.refuses(b"ab\n" + dashes + b"\n 1\n")
            self.refuses(b"ab\n" + dashes + b"\n")
        self.assertEqual(read(b"ab\n--\n 1\n")[0], 0)

    def test_a_column_wider_than_its_longest(self):
        self.refuses(b"  a\n---\n 10\n")
        self.refuses(b" a\n--\n 1\n")
        self.refuses(b"a    b\n------\n1    1\n")

    def test_numbers_that_are_not_told_so(self):
        for number in (b"1.0", b"01", b"1e0", b"-0", b"0.0", b"1.", b".5", b"+1", b"1e5", b"1e+20", b"1E20", b"1e020",
                       b"10e19", b"0.1e21", b"1.50", b"0e0", b"00", b"-00", b"0.0000001", b"100000000000000000",
                       b"0.30000000000000001", b"0.1000000000000000055511151231257827", b"9007199254740993",
                       b"1e400", b"-1e400", b"1e309", b"1e-400", b"1e99999", b"nan", b"inf", b"x", b"-", b"--1", b"1-",
                       b"4.9e-324", b"1,5", b"1\x00", b"\xff", b"2.5e-324", b"9" * 64, b"9" * 65, b"9" * 20000):
            room = max(len(number), 3)
            self.refuses(b"abc".rjust(room) + b"\n" + b"-" * room + b"\n" + number.rjust(room) + b"\n")
        self.assertEqual(read(b" abc\n----\n1e20\n")[0], 0)

    def test_names(self):
        for name in (b"n" * 33, b"n" * 20000, b"\x7f", b"\x80", b"a\x1f", b"a\x00b", b"\xc3\xa4", b"\xff"):
            self.refuses(name + b"\n" + b"-" * len(name) + b"\n")
            self.refuses(b"a  " + name + b"\n" + b"-" * (len(name) + 3) + b"\n")

    def test_seventeen_columns(self):
        for many in (16, 17):
            text = b"  ".join([b"a"] * many) + b"\n" + b"-" * (3 * many - 2) + b"\n"
            line = b"  ".join([b"1"] * many) + b"\n"
            for whole in (text, text + line):
                self.assertEqual(read(whole)[0], 0 if many == 16 else -4)

    def test_257_lines(self):
        self.assertEqual(read(b"a\n-\n" + b"1\n" * 256)[:3], [0, 1, 256])
        self.refuses(b"a\n-\n" + b"1\n" * 257)

    def test_a_line_with_too_few_or_too_many_numbers(self):
        for line in (b"", b"1", b"   1", b"1  2  3", b"1    "):
            self.refuses(b"a  b\n----\n" + line + b"\n")
            self.refuses(b"a  b\n----\n1  2\n" + line + b"\n")
        self.refuses(b"a\n-\n1  2\n")

    def test_the_longest_texts(self):
        for text in (b" " * MOST, b"\n" * MOST, b"a\n" * (MOST // 2), b"9" * MOST, b"a  " * (MOST // 3),
                     b"a\n-\n" + b"9" * (MOST - 5) + b"\n", b"a\n-\n" + b"1 " * ((MOST - 5) // 2) + b"\n"):
            self.refuses(text)


class Held(unittest.TestCase):
    def test_spoiled_tables(self):
        """A spoiled text is a table if and only if what is read of it is told as that text again."""
        chance = random.Random(12)
        read_back = 0
        for _ in range(4000):
            n = chance.randrange(1, 4)
            names = [name_of(chance, 4) for _ in range(n)]
            lines = [[bits_of(float(chance.choice([0, 1, 10, -5, 0.5, 1e20]))) for _ in range(n)]
                     for _ in range(chance.randrange(3))]
            text = second_table(names, lines)
            for _ in range(chance.randrange(3)):
                at = chance.randrange(len(text) + 1)
                more = chance.choice([b"", b" ", b"\n", b"-", b"1", b"0", b"a", b".", b"  ",
                                      bytes([chance.randrange(256)])])
                text = text[:at] + more + text[at + chance.choice([0, 0, 1, 2]):]
            answer = desk.untable(list(text))
            self.assertEqual(answer == [-4], not self.is_table(text), text)
            if answer != [-4]:
                read_back += 1
                self.assertEqual(self.told_again(answer), text)
        self.assertTrue(1000 < read_back < 3900, read_back)

    def told_again(self, answer):
        n, many = answer[1:3]
        names, at = [], 3
        for _ in range(n):
            names.append("".join(map(chr, answer[at + 1:at + 1 + answer[at]])))
            at += 1 + answer[at]
        self.assertEqual(len(answer), at + n * many)
        return second_table(names, [answer[at + n * k:at + n * (k + 1)] for k in range(many)])

    def is_table(self, text):
        try:
            rows = [row.split(" ") for row in text.decode("ascii").split("\n")]
            rows = [[word for word in row if word] for row in rows]
            names, lines = rows[0], [[bits_of(float(word)) for word in row] for row in rows[2:-1]]
            if not names or any(len(line) != len(names) for line in lines) or not all(
                    33 <= ord(sign) <= 126 for name in names for sign in name):
                return False
            return second_table(names, lines) == text
        except (UnicodeDecodeError, ValueError, IndexError, OverflowError):
            return False


class OutOfRange(unittest.TestCase):
    def refuses(self, numbers):
        self.assertEqual(called(desk.untable, numbers), [-8])

    def test_too_many_bytes(self):
        self.refuses([0] * (MOST + 1))
        self.refuses(list(second_table(["n" * 32] * 16, [[0] * 16] * 256)))
        self.refuses([10] * 70000)
        self.refuses(list(b"a\n-\n" + b"1\n" * 256) + [32] * MOST)
        self.assertEqual(desk.untable([0] * MOST), [-4])

    def test_something_above_255(self):
        text = list(b"a\n-\n1\n")
        for over in (256, 266, 300, OVER):
            for at in range(len(text)):
                self.refuses(text[:at] + [over] + text[at + 1:])
            self.refuses(text + [over])

    def test_also_where_it_is_no_table(self):
        self.refuses([256])
        self.refuses([10, 300])
        self.refuses([1] * 65535 + [256])


if __name__ == "__main__":
    unittest.main()
