"""Promises 4 and 5, and what promise 2 says of numbers and lists."""

import unittest
from fractions import Fraction
from math import gcd

from modeyard.errors import NoRatio, YardError
from modeyard.ratios import lowest, measure, minus, over, plus, ratio, times, under

THIRTY = 10 ** 30 - 1
LONG = [
    THIRTY, -THIRTY, 10 ** 29, -(10 ** 29), 2 ** 97, 3 ** 60, 2 ** 40 * 3 ** 36, 7 * 10 ** 28 + 1,
]
SMALL = list(range(-13, 14))
SIX_HUNDRED = [10 ** 599 + 7, 6 ** 700, 10 ** 300 * 15, -(10 ** 600 - 1)]


class MeasureTest(unittest.TestCase):
    def test_ordinary(self):
        self.assertEqual(measure([12, 18]), 6)
        self.assertEqual(measure([12, 18, 8]), 2)
        self.assertEqual(measure([3, 5]), 1)
        self.assertEqual(measure([6, 10, 15]), 1)

    def test_either_sign(self):
        self.assertEqual(measure([-12, 18]), 6)
        self.assertEqual(measure([12, -18]), 6)
        self.assertEqual(measure([-12, -18]), 6)

    def test_nought_among_others(self):
        self.assertEqual(measure([0, 4, 6]), 2)
        self.assertEqual(measure([4, 0, 6]), 2)
        self.assertEqual(measure([4, 6, 0]), 2)
        self.assertEqual(measure([0, -7, 0]), 7)

    def test_all_nought_and_none(self):
        self.assertEqual(measure([0]), 0)
        self.assertEqual(measure([0, 0, 0]), 0)
        self.assertEqual(measure([]), 0)

    def test_one_number(self):
        self.assertEqual(measure([5]), 5)
        self.assertEqual(measure([-5]), 5)
        self.assertEqual(measure([1]), 1)
        self.assertEqual(measure([-1]), 1)

    def test_pairs_against_pythons_own(self):
        for one in SMALL + LONG + SIX_HUNDRED:
            for other in SMALL + LONG + SIX_HUNDRED:
                self.assertEqual(measure([one, other]), gcd(one, other))

    def test_threes_against_pythons_own(self):
        for one in LONG:
            for other in LONG:
                for third in SMALL:
                    self.assertEqual(measure([one, other, third]), gcd(one, other, third))

    def test_thirty_figures(self):
        self.assertEqual(measure([THIRTY]), THIRTY)
        self.assertEqual(measure([6 * 10 ** 29, -9 * 10 ** 29]), 3 * 10 ** 29)
        self.assertEqual(measure([2 ** 40 * 3 ** 36, 2 ** 41 * 3 ** 35]), 2 ** 40 * 3 ** 35)

    def test_list_stays_as_it_was(self):
        numbers = [4, -6, 0]
        measure(numbers)
        self.assertEqual(numbers, [4, -6, 0])


class LowestTest(unittest.TestCase):
    def test_ordinary(self):
        self.assertEqual(lowest([4, 6]), [2, 3])
        self.assertEqual(lowest([3, 5]), [3, 5])
        self.assertEqual(lowest([7]), [1])

    def test_signs_are_kept(self):
        self.assertEqual(lowest([-4, 6]), [-2, 3])
        self.assertEqual(lowest([4, -6, 0]), [2, -3, 0])
        self.assertEqual(lowest([-5]), [-1])
        self.assertEqual(lowest([-4, -7]), [-4, -7])

    def test_noughts_and_none(self):
        self.assertEqual(lowest([0]), [0])
        self.assertEqual(lowest([0, 0, 0]), [0, 0, 0])
        self.assertEqual(lowest([]), [])

    def test_thirty_figures(self):
        self.assertEqual(lowest([THIRTY, -2 * THIRTY, 0]), [1, -2, 0])
        self.assertEqual(lowest([10 ** 29, 10 ** 29 + 1]), [10 ** 29, 10 ** 29 + 1])
        # A way by floats would lose the last figures here.
        self.assertEqual(lowest([3 * (10 ** 28 + 1), 6 * (10 ** 28 + 3)]), [10 ** 28 + 1, 2 * (10 ** 28 + 3)])

    def test_list_stays_as_it_was(self):
        numbers = [4, -6, 0]
        lowest(numbers)
        self.assertEqual(numbers, [4, -6, 0])

    def test_told_list_is_new(self):
        for numbers in ([4, 6], [3, 5], [0, 0], []):
            before = list(numbers)
            told = lowest(numbers)
            told.append(99)
            self.assertEqual(numbers, before)
            again = lowest(numbers)
            numbers.append(98)
            self.assertEqual(again, told[:-1])


class RatioCase(unittest.TestCase):
    def assert_is(self, told, wanted):
        """A tuple of two whole numbers in lowest terms, the bottom from 1 on."""
        self.assertIs(type(told), tuple)
        self.assertEqual([type(number) for number in told], [int, int])
        self.assertGreaterEqual(told[1], 1)
        self.assertEqual(gcd(told[0], told[1]), 1)
        self.assertEqual(told, (wanted.numerator, wanted.denominator))


class RatioTest(RatioCase):
    def test_ordinary(self):
        self.assertEqual(ratio(3, 4), (3, 4))
        self.assertEqual(ratio(6, 8), (3, 4))
        self.assertEqual(ratio(8, 4), (2, 1))

    def test_either_sign(self):
        self.assertEqual(ratio(-6, 8), (-3, 4))
        self.assertEqual(ratio(6, -8), (-3, 4))
        self.assertEqual(ratio(-6, -8), (3, 4))
        self.assertEqual(ratio(1, -1), (-1, 1))

    def test_top_nought(self):
        for bottom in (1, 7, -1, -7, THIRTY, -THIRTY):
            self.assertEqual(ratio(0, bottom), (0, 1))

    def test_bottom_nought(self):
        for top in (0, 1, -1, THIRTY, -THIRTY):
            with self.assertRaises(NoRatio):
                ratio(top, 0)

    def test_what_is_no_whole_number(self):
        for wrong in (True, False, None, "1", 1.0):
            for top, bottom in ((wrong, 2), (2, wrong)):
                with self.assertRaises(NoRatio):
                    ratio(top, bottom)

    def test_refusal_is_taken_by_the_bases(self):
        for taker in (NoRatio, YardError, ValueError):
            with self.assertRaises(taker):
                ratio(1, 0)
            with self.assertRaises(taker):
                over((1, 2), (0, 1))

    def test_against_fractions(self):
        for top in SMALL + LONG + SIX_HUNDRED:
            for bottom in SMALL + LONG + SIX_HUNDRED:
                if bottom != 0:
                    self.assert_is(ratio(top, bottom), Fraction(top, bottom))


class ReckoningTest(RatioCase):
    SOME = [
        (0, 1), (1, 1), (-1, 1), (1, 2), (-1, 2), (2, 3), (-3, 2), (5, 6), (-7, 12), (4, 1),
        ratio(THIRTY, 7), ratio(-7, THIRTY), ratio(10 ** 29, 3 ** 60), ratio(10 ** 599 + 7, 6 ** 700),
    ]

    def pairs(self):
        return [(one, other) for one in self.SOME for other in self.SOME]

    def test_ordinary_reckoning(self):
        self.assertEqual(plus((1, 6), (1, 3)), (1, 2))
        self.assertEqual(minus((1, 6), (1, 3)), (-1, 6))
        self.assertEqual(times((2, 3), (3, 4)), (1, 2))
        self.assertEqual(over((2, 3), (-4, 3)), (-1, 2))

    def test_nought_comes_as_nought_over_one(self):
        self.assertEqual(plus((5, 7), (-5, 7)), (0, 1))
        self.assertEqual(minus((5, 7), (5, 7)), (0, 1))
        self.assertEqual(times((0, 1), (-5, 7)), (0, 1))
        self.assertEqual(over((0, 1), (-5, 7)), (0, 1))

    def test_all_against_fractions(self):
        for one, other in self.pairs():
            left, right = Fraction(*one), Fraction(*other)
            self.assert_is(plus(one, other), left + right)
            self.assert_is(minus(one, other), left - right)
            self.assert_is(times(one, other), left * right)
            if right != 0:
                self.assert_is(over(one, other), left / right)

    def test_over_nought(self):
        for one in self.SOME:
            with self.assertRaises(NoRatio):
                over(one, (0, 1))

    def test_under(self):
        self.assertIs(under((1, 3), (1, 2)), True)
        self.assertIs(under((1, 2), (1, 3)), False)
        self.assertIs(under((1, 2), (1, 2)), False)
        self.assertIs(under((0, 1), (0, 1)), False)
        self.assertIs(under((-1, 2), (-1, 3)), True)
        self.assertIs(under((-1, 3), (-1, 2)), False)
        self.assertIs(under((-1, 2), (0, 1)), True)
        self.assertIs(under((0, 1), (-1, 2)), False)

    def test_under_against_fractions(self):
        for one, other in self.pairs():
            self.assertIs(under(one, other), Fraction(*one) < Fraction(*other))

    def test_under_of_near_ones_of_thirty_figures(self):
        one, other = ratio(THIRTY - 1, THIRTY), ratio(THIRTY - 2, THIRTY - 1)
        self.assertIs(under(other, one), True)
        self.assertIs(under(one, other), False)

    def test_told_ratios_handed_in_again(self):
        told, wanted = (1, 1), Fraction(1)
        for number in range(1, 40):
            step = ratio(THIRTY - number, 10 ** 29 + number)
            told = plus(times(told, step), (-number, 7))
            wanted = wanted * Fraction(*step) + Fraction(-number, 7)
            self.assert_is(told, wanted)
        self.assertGreater(told[1], 10 ** 600)
        self.assertEqual(over(told, told), (1, 1))
        self.assertEqual(minus(told, told), (0, 1))
        self.assertIs(under(told, told), False)

    def test_refusal_of_very_long_numbers_is_still_no_ratio(self):
        # Python does not write out numbers of over 4300 figures by itself.
        long = (10 ** 5000 + 1, 10 ** 4999)
        with self.assertRaises(NoRatio):
            over(long, (0, 1))


if __name__ == "__main__":
    unittest.main()
