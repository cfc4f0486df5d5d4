"""Point 8 of DOC.md: undecimal."""

import fractions
import random
import unittest

from helper import bits_of, called, finite_bits, float_of, text_of
from shownback import desk

SIGN = 1 << 63
GREATEST = (2047 << 52) - 1


def read(words):
    return called(desk.undecimal, list(words.encode()))


def digits_of(ratio, many):
    """A ratio that ends within so many digits, written in full with a power."""
    text, tens = str(ratio.numerator), 0
    while ratio.denominator > 1:
        ratio *= 10
        tens -= 1
        text = str(ratio.numerator)
    text = text.rstrip("0") or "0"
    tens += len(str(ratio.numerator)) - len(text)
    return f"{text}e{tens}" if len(text) <= many else None


class Numbers(unittest.TestCase):
    def holds(self, words, number=None):
        with self.subTest(words=words):
            wanted = bits_of(float(words) if number is None else number)
            self.assertEqual(read(words), [0, 0 if wanted == SIGN else wanted])

    def test_the_bits_as_they_are_written_out(self):
        self.assertEqual(read("1"), [0, 0x3FF0000000000000])
        self.assertEqual(read("-2.5"), [0, 0xC004000000000000])
        self.assertEqual(read("0"), [0, 0])
        self.assertEqual(read("5e-324"), [0, 1])

    def test_each_form(self):
        for words in ("7", "10", "123456", "1.5", "0.5", "00.50", "1e5", "1e-5", "1.25e10", "12.5e-3", "0.001e3",
                      "-1", "-1.5", "-1e5", "-1.5e-5", "9e0", "9e00", "9e-0", "1e0005", "1e-0005", "3.0", "100e-2"):
            self.holds(words)

    def test_leading_zeros_and_zeros_behind(self):
        for words in ("007", "0" * 63 + "7", "0." + "0" * 61 + "7", "7." + "0" * 62, "0" * 50 + "1.50e0010",
                      "1" + "0" * 63, "-" + "0" * 62 + "1", "000.000e9999", "0000000000000000000123e-0003"):
            self.holds(words)

    def test_powers_of_one_to_four_digits(self):
        for power in ("5", "05", "005", "0005", "-5", "-05", "-005", "-0005", "10", "100", "0100", "-100", "-0100"):
            self.holds("3.25e" + power)

    def test_minus_nought_in_each_form(self):
        for words in ("-0", "-00", "-0.0", "-0e5", "-0.00e-12", "-0e9999", "-0e-9999", "-1e-400", "-1e-9999",
                      "-0." + "0" * 50 + "1e-300"):
            self.assertEqual(read(words), [0, 0], words)

    def test_so_small_that_it_is_nought(self):
        for words in ("1e-324", "2e-324", "2.4703282292062327e-324", "1e-325", "1e-400", "9e-9999", "0.1e-330"):
            self.assertEqual(read(words), [0, 0], words)
        for words in ("2.4703282292062328e-324", "2.5e-324", "3e-324", "5e-324", "7e-324"):
            self.assertEqual(read(words), [0, 1], words)
        self.assertEqual(read("-2.5e-324"), [0, SIGN + 1])
        self.assertEqual(read("7.5e-324"), [0, 2])

    def test_many_digits_with_great_powers(self):
        self.holds("0." + "0" * 55 + "123e58")
        self.holds("1" * 60 + "e-9")
        self.holds("9" * 58 + "e-380")
        self.holds("9" * 58 + "e250")
        self.holds("0." + "0" * 52 + "1e360")

    def test_sixty_four_bytes(self):
        for words in ("1." + "3" * 62, "9" * 64, "-0." + "7" * 61, "1" * 59 + "e-100", "-" + "1" * 57 + "e-0100"):
            self.assertLessEqual(len(words), 64)
            self.holds(words)

    def test_what_is_read_is_what_decimal_tells(self):
        chance = random.Random(5)
        near = [1, 2, (1 << 52) - 1, 1 << 52, (1 << 52) + 1, GREATEST, GREATEST - 1]
        near += [SIGN + bits for bits in near] + [finite_bits(chance) for _ in range(3000)]
        for bits in near:
            self.assertEqual(desk.undecimal(desk.decimal(bits)[1:]), [0, bits if bits != SIGN else 0])


class Halfway(unittest.TestCase):
    def test_the_one_whose_last_bit_is_0(self):
        for words, number in (("9007199254740993", 9007199254740992.0), ("9007199254740995", 9007199254740996.0),
                              ("9007199254740993.0", 9007199254740992.0), ("9007199254740993e0", 9007199254740992.0),
                              ("-9007199254740993", -9007199254740992.0), ("18014398509481986", 18014398509481984.0),
                              ("18014398509481990", 18014398509481992.0),
                              ("4503599627370496.5", 4503599627370496.5), ("4503599627370496.25", 4503599627370496.0),
                              ("4503599627370496.75", 4503599627370497.0)):
            self.assertEqual(read(words), [0, bits_of(number)], words)

    def test_a_digit_far_behind_decides(self):
        above, below = bits_of(9007199254740994.0), bits_of(9007199254740992.0)
        self.assertEqual(read("9007199254740993." + "0" * 47), [0, below])
        self.assertEqual(read("9007199254740993." + "0" * 46 + "1"), [0, above])
        self.assertEqual(read("9007199254740993" + "0" * 40 + "1e-41"), [0, above])
        self.assertEqual(read("9007199254740992." + "9" * 47), [0, below])
        self.assertEqual(read("9007199254740995." + "0" * 47), [0, bits_of(9007199254740996.0)])
        self.assertEqual(read("9007199254740994." + "9" * 47), [0, above])

    def test_halfway_and_a_hair_beside_it(self):
        chance = random.Random(6)
        tried = 0
        while tried < 300:
            bits = bits_of(chance.choice([1.0, 1000.0, 2.0 ** 60, 2.0 ** 100, 0.5]) * (1 + chance.random()))
            bits += chance.randrange(2)
            half = (fractions.Fraction(float_of(bits)) + fractions.Fraction(float_of(bits + 1))) / 2
            words = digits_of(half, 58)
            if words is None:
                continue
            tried += 1
            even = bits if bits % 2 == 0 else bits + 1
            self.assertEqual(desk.undecimal(list(words.encode())), [0, even])
            digits, power = words.split("e")
            more = f"{digits}1e{int(power) - 1}"
            self.assertEqual(desk.undecimal(list(more.encode())), [0, bits + 1])
            less = f"{int(digits) * 10 - 1}e{int(power) - 1}"
            self.assertEqual(desk.undecimal(list(less.encode())), [0, bits])

    def test_rounded_up_to_the_next_power_of_two(self):
        self.assertEqual(read("1.9999999999999999"), [0, bits_of(2.0)])
        self.assertEqual(read("9007199254740991.5"), [0, bits_of(9007199254740992.0)])
        self.assertEqual(read("9007199254740991.4"), [0, bits_of(9007199254740991.0)])
        self.assertEqual(read("2.2250738585072011e-308"), [0, (1 << 52) - 1])
        self.assertEqual(read("2.2250738585072012e-308"), [0, 1 << 52])


class TooGreat(unittest.TestCase):
    def test_both_sides_of_the_edge(self):
        # Halfway between the greatest number and 2^1024, cut off behind 54 digits.
        edge = 2 ** 1024 - 2 ** 970
        digits = int(str(edge)[:54])
        self.assertEqual(read(f"{digits}e{309 - 54}"), [0, GREATEST])
        self.assertEqual(read(f"-{digits}e{309 - 54}"), [0, SIGN + GREATEST])
        self.assertEqual(read(f"{digits + 1}e{309 - 54}"), [-7])
        self.assertEqual(read(f"-{digits + 1}e{309 - 54}"), [-7])
        self.assertEqual(read("1.7976931348623157e308"), [0, GREATEST])
        self.assertEqual(read("1.7976931348623158e308"), [0, GREATEST])
        self.assertEqual(read("1.7976931348623159e308"), [-7])
        self.assertEqual(read("-1.7976931348623159e308"), [-7])

    def test_far_beyond(self):
        for words in ("1.8e308", "2e308", "1e309", "1e310", "1e311", "1e400", "1e9999", "0.1e310", "0.00001e9999",
                      "-1e309", "-1e9999", "9" * 59 + "e9999", "0." + "0" * 50 + "1e360", "17976931348623159e292"):
            self.assertEqual(read(words), [-7], words)

    def test_great_powers_that_are_not_too_great(self):
        self.assertEqual(read("0e9999"), [0, 0])
        self.assertEqual(read("0." + "0" * 55 + "1e360"), [0, bits_of(1e304)])
        self.assertEqual(read("1e308"), [0, bits_of(1e308)])
        self.assertEqual(read("0.1e309"), [0, bits_of(1e308)])


class NoNumber(unittest.TestCase):
    def test_texts_that_are_not_so(self):
        for words in ("", "-", ".", "-.", "1.", "-1.", ".5", "-.5", "1.e5", ".e5", "e5", "-e5", "1e", "1e-", "1.5e",
                      "1.5e-", "1e12345", "1e-12345", "1e00000", "+1", "1e+5", "--1", "1e--5", "1-", "1.5-", " 1", "1 ",
                      "1 e5", "1e 5", "1E5", "1e5.", "1e5.0", "1.2.3", "1..2", "1e5e5", "1,5", "1_000", "0x10", "inf",
                      "nan", "-inf", "1\n", "\n1", "1f", "1e5x", "a", "1/2", "1:", "1\x00", "e", "1e5-", "1ee5"):
            with self.subTest(words=words):
                self.assertEqual(read(words), [-4])

    def test_too_great_but_not_so(self):
        for words in ("1e9999 ", "1e99999", "9e9999x", "1e400."):
            self.assertEqual(read(words), [-4])

    def test_every_byte(self):
        for byte in range(256):
            self.assertEqual(desk.undecimal([byte])[0], 0 if 48 <= byte <= 57 else -4)
            self.assertEqual(desk.undecimal([49, byte])[0], 0 if 48 <= byte <= 57 else -4)
            self.assertEqual(desk.undecimal([byte, 49])[0], 0 if 48 <= byte <= 57 or byte == 45 else -4)
            self.assertEqual(desk.undecimal([49, byte, 49])[0], 0 if 48 <= byte <= 57 or byte in (46, 101) else -4)

    def test_all_short_texts(self):
        import re
        grammar = re.compile(r"-?[0-9]+(\.[0-9]+)?(e-?[0-9]{1,4})?")
        texts = [""]
        for _ in range(6):
            texts = [text + sign for text in texts for sign in "-.e07"]
            for text in texts:
                answer = desk.undecimal(list(text.encode()))
                if not grammar.fullmatch(text):
                    self.assertEqual(answer, [-4], text)
                elif abs(float(text)) == float("inf"):
                    self.assertEqual(answer, [-7], text)
                else:
                    self.assertEqual(answer, [0, bits_of(float(text) or 0.0)], text)


class Held(unittest.TestCase):
    def test_against_pythons_own(self):
        chance = random.Random(7)
        for _ in range(20000):
            words = chance.choice(["", "-"]) + "".join(chance.choices("0123456789", k=chance.randrange(1, 25)))
            if chance.randrange(2):
                words += "." + "".join(chance.choices("0123456789", k=chance.randrange(1, 25)))
            if chance.randrange(2):
                words += "e" + str(chance.randrange(-360, 330))
            number = float(words)
            wanted = [-7] if abs(number) == float("inf") else [0, bits_of(number) if number != 0 else 0]
            self.assertEqual(desk.undecimal(list(words.encode())), wanted, words)


class OutOfRange(unittest.TestCase):
    def refuses(self, numbers):
        self.assertEqual(called(desk.undecimal, numbers), [-8])

    def test_more_than_64_bytes(self):
        self.assertEqual(called(desk.undecimal, [48] * 64), [0, 0])
        self.refuses([48] * 65)
        self.refuses([48] * 100)
        self.refuses([32] * 65)
        self.refuses(list(b"9" * 60 + b"e9999"))

    def test_something_above_255(self):
        for over in (256, 300):
            self.refuses([over])
            self.refuses([49, over])
            self.refuses([over, 49])
            self.refuses([49] * 63 + [over])

    def test_also_where_it_is_no_number(self):
        self.refuses([32, 256])
        self.refuses([256] * 100)
        self.refuses(list(b"1e9999") + [300])

    def test_text_of_the_longest_decimal(self):
        text = text_of(desk.decimal(SIGN + bits_of(2.2250738585072014e-308)))
        self.assertEqual(len(text), 24)
        self.assertEqual(read(text.decode()), [0, SIGN + (1 << 52)])


if __name__ == "__main__":
    unittest.main()
