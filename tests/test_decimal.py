"""Point 7 of DOC.md: decimal."""

import math
import random
import unittest

from helper import OVER, bits_of, called, finite_bits, second_decimal, text_of, third_decimal
from shownback import desk

INFINITE = 2047 << 52
SIGN = 1 << 63
LEAST_NORMAL = 1 << 52
GREATEST = INFINITE - 1


def told(bits):
    return text_of(called(desk.decimal, bits)).decode()


class Forms(unittest.TestCase):
    def holds(self, number, wanted):
        with self.subTest(number=number):
            self.assertEqual(told(bits_of(number)), wanted)
            if number != 0:
                self.assertEqual(told(bits_of(-number)), "-" + wanted)

    def test_nought(self):
        self.assertEqual(called(desk.decimal, 0), [1, 48])
        self.assertEqual(called(desk.decimal, SIGN), [1, 48])

    def test_the_bytes_as_they_are_written_out(self):
        self.assertEqual(called(desk.decimal, bits_of(-1.5)), [4, 45, 49, 46, 53])
        self.assertEqual(called(desk.decimal, bits_of(2e-8)), [4, 50, 101, 45, 56])

    def test_digits_and_zeros(self):
        for number, wanted in ((1.0, "1"), (7.0, "7"), (10.0, "10"), (100.0, "100"), (120.0, "120"), (1024.0, "1024"),
                               (1e15, "1000000000000000"), (1e16, "10000000000000000"),
                               (9e16, "90000000000000000"), (12345678901234500.0, "12345678901234500"),
                               (9007199254740992.0, "9007199254740992"), (12345678901234568.0, "12345678901234568"),
                               (99999999999999984.0, "99999999999999980")):
            self.holds(number, wanted)

    def test_digits_and_zeros_past_seventeen_places(self):
        for number, wanted in ((1e17, "1e17"), (1.2e17, "1.2e17"), (123456789012345680.0, "1.2345678901234568e17"),
                               (1e18, "1e18"), (1e22, "1e22"), (1e23, "1e23"), (5e100, "5e100"),
                               (1.25e300, "1.25e300")):
            self.holds(number, wanted)

    def test_nought_and_a_point(self):
        for number, wanted in ((0.5, "0.5"), (0.1, "0.1"), (0.25, "0.25"), (0.01, "0.01"), (0.00001, "0.00001"),
                               (0.000001, "0.000001"), (0.000009, "0.000009"), (0.00000123, "0.00000123"),
                               (0.0000099999, "0.0000099999"), (0.1234567890123456, "0.1234567890123456"),
                               (1 / 3, "0.3333333333333333")):
            self.holds(number, wanted)

    def test_too_small_for_that(self):
        for number, wanted in ((0.0000001, "1e-7"), (0.00000099, "9.9e-7"), (9.999999e-7, "9.999999e-7"),
                               (1e-10, "1e-10"), (1.5e-100, "1.5e-100"), (2e-308, "2e-308")):
            self.holds(number, wanted)

    def test_a_point_among_the_digits(self):
        for number, wanted in ((1.5, "1.5"), (10.5, "10.5"), (123.456, "123.456"), (1.25, "1.25"), (99.9, "99.9"),
                               (1000000.000001, "1000000.000001"), (2251799813685249.5, "2251799813685249.5"),
                               (math.pi, "3.141592653589793"), (1 + 2.0 ** -52, "1.0000000000000002")):
            self.holds(number, wanted)

    def test_one_digit_and_seventeen(self):
        for number, wanted in ((2e200, "2e200"), (3e-200, "3e-200"), (0.1 + 0.2, "0.30000000000000004"),
                               (1.2345678901234567e-30, "1.2345678901234567e-30"),
                               (5.0000000000000001e-100, "5e-100")):
            self.holds(number, wanted)
        self.assertEqual(len(told(bits_of(2 / 3 * 1e30)).replace(".", "").split("e")[0]), 16)


class Edges(unittest.TestCase):
    def test_the_least_numbers(self):
        wanted = ["5e-324", "1e-323", "1.5e-323", "2e-323", "2.5e-323", "3e-323", "3.5e-323", "4e-323", "4.4e-323",
                  "5e-323", "5.4e-323", "6e-323", "6.4e-323", "7e-323", "7.4e-323", "8e-323", "8.4e-323", "9e-323",
                  "9.4e-323", "1e-322", "1.04e-322"]
        self.assertEqual([told(bits) for bits in range(1, 22)], wanted)
        self.assertEqual(told(SIGN + 1), "-5e-324")

    def test_the_greatest_number(self):
        self.assertEqual(told(GREATEST), "1.7976931348623157e308")
        self.assertEqual(told(SIGN + GREATEST), "-1.7976931348623157e308")
        self.assertEqual(told(GREATEST - 1), "1.7976931348623155e308")

    def test_the_least_that_is_not_subnormal(self):
        self.assertEqual(told(LEAST_NORMAL), "2.2250738585072014e-308")
        self.assertEqual(told(LEAST_NORMAL - 1), "2.225073858507201e-308")
        self.assertEqual(told(LEAST_NORMAL + 1), "2.225073858507202e-308")

    def test_halfway_between_two_shortest_decimals(self):
        for number, wanted in ((1125899906842624.25, "1125899906842624.2"), (1125899906842624.75, "1125899906842624.8"),
                               (1125899906842625.25, "1125899906842625.2"), (2251799813685247.75, "2251799813685247.8"),
                               (562949953421312.125, "562949953421312.1"), (2 ** 49 + 0.375, "562949953421312.4")):
            self.assertEqual(told(bits_of(number)), wanted)

    def test_powers_of_two(self):
        for power in range(-1074, 1024):
            bits = bits_of(math.ldexp(1.0, power))
            for near in (bits - 1, bits, bits + 1):
                self.assertEqual(text_of(desk.decimal(near)).decode(), second_decimal(near), (power, near))

    def test_a_power_of_two_whose_lower_neighbour_is_nearer(self):
        self.assertEqual(told(bits_of(2.0 ** -44)), "5.684341886080802e-14")
        self.assertEqual(told(bits_of(9007199254740992.0)), "9007199254740992")

    def test_powers_of_ten(self):
        for power in range(-323, 309):
            self.assertEqual(told(bits_of(float(f"1e{power}"))), ("1e%d" % power) if not -7 < power < 17 else
                             "1" + "0" * power if power >= 0 else "0." + "0" * (-power - 1) + "1")


class Held(unittest.TestCase):
    def test_against_all_decimals_tried(self):
        chance = random.Random(2)
        near = [1 << 52, (1 << 52) - 1, GREATEST, GREATEST - 1] + list(range(2, 200))
        near += [bits_of(2.0 ** power) for power in range(-1070, 1020, 61)]
        near += [bits_of(2.0 ** 50 + k / 4) for k in range(8)]
        near += [finite_bits(chance) % SIGN for _ in range(600)]
        for bits in near:
            if bits > 0:
                self.assertEqual(text_of(desk.decimal(bits)).decode(), third_decimal(bits), bits)

    def test_against_pythons_own(self):
        chance = random.Random(3)
        for _ in range(30000):
            bits = finite_bits(chance)
            words = text_of(desk.decimal(bits)).decode()
            self.assertEqual(words, second_decimal(bits), bits)
            self.assertEqual(bits_of(float(words)), bits if bits != SIGN else 0)

    def test_twice_and_unchanged(self):
        chance = random.Random(4)
        for _ in range(200):
            bits = finite_bits(chance)
            self.assertEqual(told(bits), second_decimal(bits))


class Refused(unittest.TestCase):
    def test_what_is_no_finite_number(self):
        for bits in (INFINITE, INFINITE + 1, INFINITE + (1 << 51), SIGN - 1, SIGN + INFINITE, SIGN + INFINITE + 1,
                     OVER):
            self.assertEqual(called(desk.decimal, bits), [-8])
        self.assertEqual(desk.decimal(INFINITE - 1)[0], 22)


if __name__ == "__main__":
    unittest.main()
