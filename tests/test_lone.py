"""Promises 14 and 15, and what promises 2 and 3 say of lone lists."""

import copy
import unittest
from fractions import Fraction
from math import gcd

from modeyard.errors import NoFit
from modeyard.lone import lone, shares
from reckon import Numbers, assert_refused, assert_shares, assert_whole, dot, places, searched_lone, together

NINE = 10 ** 9 - 1
THIRTY = 10 ** 30 - 1


def fitted(drawn, how_many, many, size):
    """Rows of which some list without a 0 is still, so that they have lone lists."""
    wanted = drawn.row(many, 1, 3)
    told = drawn.rows(how_many, many, -size, size)
    for row in told:
        row[-1] = 0
        # The last number alone makes up for all others, so its place in the wanted list is 1.
        row[-1] = -dot(row, wanted)
    wanted[-1] = 1
    return told, wanted


def some_rows():
    drawn = Numbers(11)
    told = [
        ([], 0), ([], 1), ([], 4), ([[]], 0), ([[], []], 0), ([[0]], 1), ([[3]], 1), ([[-3]], 1),
        ([[0, 0, 0]], 3), ([[0, 0], [0, 0]], 2), ([[0, 1, 0]], 3), ([[1, 1, 1]], 3), ([[-1, -2, -3]], 3),
        ([[1, -1]], 2), ([[2, -3]], 2), ([[1, 1, -1, -1]], 4), ([[2, 3, -5, -7]], 4), ([[6, -4, 0]], 3),
        ([[1, -1, 0], [0, 1, -1]], 3), ([[1, -1, 0], [0, 1, -1], [-1, 0, 1]], 3), ([[1, -1], [1, -2]], 2),
        ([[1, -2, 0], [2, -4, 0], [0, 0, 5]], 3), ([[1, -1, 1, -1, 0], [0, 1, -1, -1, 1]], 5),
        # The same works under several names: many lone lists with a few places each.
        ([[1, 1, 1, -1, -1, -1]], 6), ([[1, 1, -1, -1, 0, 0], [0, 0, 1, 1, -1, -1]], 6),
        ([[NINE, -NINE + 1, 1], [1, 0, -1]], 3), ([[NINE, -2 * NINE, 7]], 3),
    ]
    for _ in range(250):
        many = drawn.number(1, 6)
        told.append((drawn.rows(drawn.number(0, 4), many, -2, 2), many))
    for _ in range(100):
        many = drawn.number(2, 6)
        told.append((fitted(drawn, drawn.number(1, 4), many, 3)[0], many))
    for _ in range(30):
        told.append((drawn.rows(2, 5, -NINE, NINE), 5))
    return told


def twelve_rows():
    """Rows of twelve numbers that have lone lists."""
    drawn = Numbers(12)
    told = [fitted(drawn, how_many, 12, size)[0] for how_many in (1, 3, 5, 6, 8, 10) for size in (1, 3)]
    told.append(fitted(drawn, 6, 12, NINE)[0])
    told.append(fitted(drawn, 12, 12, 2)[0])
    return told


class LoneTest(unittest.TestCase):
    def test_ordinary(self):
        self.assertEqual(lone([[1, -1]], 2), [[1, 1]])
        self.assertEqual(lone([[2, -3]], 2), [[3, 2]])
        self.assertEqual(lone([[1, 1, -1]], 3), [[0, 1, 1], [1, 0, 1]])
        self.assertEqual(lone([[1, -2, 0], [0, 3, -1]], 3), [[2, 1, 3]])
        self.assertEqual(lone([[2, 3, -5, -7]], 4), [[0, 5, 3, 0], [0, 7, 0, 3], [5, 0, 2, 0], [7, 0, 0, 2]])

    def test_no_common_measure(self):
        self.assertEqual(lone([[6, -4]], 2), [[2, 3]])
        self.assertEqual(lone([[NINE, -NINE]], 2), [[1, 1]])

    def test_sorted_by_pythons_own_order(self):
        self.assertEqual(lone([[1, -11, -9]], 3), [[9, 0, 1], [11, 1, 0]])
        for rows, many in some_rows():
            self.assertEqual(lone(rows, many), sorted(lone(rows, many)))

    def test_sums_of_others_are_not_lone(self):
        # Places 0 and 1, 2 and 3 go together each; both pairs at once are a sum.
        self.assertEqual(lone([[1, -1, 0, 0], [0, 0, 1, -1]], 4), [[0, 0, 1, 1], [1, 1, 0, 0]])

    def test_without_a_fit_list(self):
        for rows in ([[1, 1]], [[-1, -2]], [[1, -1], [1, -2]], [[1, 0], [0, 1]], [[3, -1], [-1, 3]]):
            self.assertEqual(lone(rows, 2), [])
        self.assertEqual(lone([[5]], 1), [])
        self.assertEqual(lone([[-5]], 1), [])

    def test_no_rows_and_noughts(self):
        self.assertEqual(lone([], 1), [[1]])
        self.assertEqual(lone([], 3), [[0, 0, 1], [0, 1, 0], [1, 0, 0]])
        self.assertEqual(lone([[0, 0, 0]], 3), [[0, 0, 1], [0, 1, 0], [1, 0, 0]])
        self.assertEqual(lone([[0, 0], [0, 0], [0, 0]], 2), [[0, 1], [1, 0]])
        self.assertEqual(lone([], 12), [[0] * (11 - at) + [1] + [0] * at for at in range(12)])

    def test_without_numbers(self):
        self.assertEqual(lone([], 0), [])
        self.assertEqual(lone([[]], 0), [])
        self.assertEqual(lone([[], [], []], 0), [])

    def test_number_of_nine_figures(self):
        self.assertEqual(lone([[NINE, -1]], 2), [[1, NINE]])
        self.assertEqual(lone([[NINE, 1 - NINE]], 2), [[NINE - 1, NINE]])
        self.assertEqual(lone([[NINE, -1, 0], [0, NINE, -1]], 3), [[1, NINE, NINE ** 2]])
        self.assertEqual(lone([[NINE, -2, -3]], 3), [[1, 0, NINE // 3], [2, NINE, 0]])

    def test_number_of_thirty_figures(self):
        self.assertEqual(lone([[THIRTY, 1 - THIRTY]], 2), [[THIRTY - 1, THIRTY]])
        # A way by floats would take these two rows for multiples of one another.
        self.assertEqual(lone([[THIRTY, 1 - THIRTY], [THIRTY - 1, 2 - THIRTY]], 2), [])

    def test_against_a_search_through_all_choices(self):
        for rows, many in some_rows():
            told = lone(rows, many)
            for one in told:
                assert_whole(self, one)
            self.assertEqual(told, searched_lone(rows, many), rows)

    def test_the_same_of_rows_in_another_order_and_multiplied(self):
        drawn = Numbers(13)
        for rows, many in some_rows():
            by = [drawn.number(1, 4) * (-1) ** drawn.number(0, 1) for _ in rows]
            others = [[number * times for number in row] for row, times in zip(rows, by)] + rows[:1] + [[0] * many]
            self.assertEqual(lone(drawn.shuffled(others), many), lone(rows, many))

    def test_twelve_numbers_a_row(self):
        for rows in twelve_rows():
            told = lone(rows, 12)
            self.assertNotEqual(told, [])
            for one in told:
                assert_whole(self, one)
                self.assertEqual(len(one), 12)
                self.assertGreaterEqual(min(one), 0)
                self.assertEqual(gcd(*one), 1)
                self.assertEqual([dot(row, one) for row in rows], [0] * len(rows))
                among = [other for other in told if set(places(other)) <= set(places(one))]
                self.assertEqual(among, [one])

    def test_twelve_numbers_a_row_against_a_search(self):
        for rows in twelve_rows()[:6:2] + twelve_rows()[-2:]:
            self.assertEqual(lone(rows, 12), searched_lone(rows, 12))

    def test_one_row_of_twelve(self):
        told = lone([[1] * 6 + [-1] * 6], 12)
        self.assertEqual(len(told), 36)
        self.assertEqual({sum(one) for one in told}, {2})


class SharesTest(unittest.TestCase):
    def assert_told(self, rows, many, fit):
        assert_shares(self, shares(rows, many, fit), fit, lone(rows, many))

    def test_ordinary(self):
        self.assertEqual(shares([[1, -1]], 2, [3, 3]), [((3, 1), [1, 1])])
        self.assertEqual(shares([[6, -4]], 2, [2, 3]), [((1, 1), [2, 3])])
        told = shares([[1, 1, -1]], 3, [2, 5, 7])
        self.assertEqual(sorted(told), [((2, 1), [1, 0, 1]), ((5, 1), [0, 1, 1])])

    def test_shares_that_are_no_whole_numbers(self):
        # Lone lists: 2 of the first with 1 of the last, 2 of the second with 1 of the last.
        told = shares([[1, 1, -2]], 3, [1, 1, 1])
        self.assertEqual(sorted(told), [((1, 2), [0, 2, 1]), ((1, 2), [2, 0, 1])])

    def test_lone_lists_themselves(self):
        for rows, many in some_rows():
            for one in lone(rows, many):
                self.assertEqual(shares(rows, many, one), [((1, 1), one)])
                self.assertEqual(shares(rows, many, [7 * number for number in one]), [((7, 1), one)])

    def test_noughts(self):
        for rows, many in some_rows():
            self.assertEqual(shares(rows, many, [0] * many), [])
        self.assertEqual(shares([], 0, []), [])
        self.assertEqual(shares([[], []], 0, []), [])

    def test_no_rows(self):
        self.assert_told([], 3, [4, 0, 9])
        self.assertEqual(shares([], 1, [8]), [((8, 1), [1])])

    def test_rows_of_noughts(self):
        self.assert_told([[0, 0, 0]], 3, [4, 1, 9])

    def test_sums_of_lone_lists(self):
        drawn = Numbers(14)
        for rows, many in some_rows():
            found = lone(rows, many)
            for size in (1, 4, 10 ** 20 - 1):
                often = [drawn.number(0, size) * drawn.number(0, 1) for _ in found]
                fit = [int(number) for number in together(found, often, many)]
                self.assert_told(rows, many, fit)

    def test_sums_by_ratios(self):
        drawn = Numbers(15)
        for rows, many in some_rows():
            found = lone(rows, many)
            often = [Fraction(drawn.number(0, 9), drawn.number(1, 9)) for _ in found]
            fit = [int(number * 2520) for number in together(found, often, many)]
            common = gcd(*fit) or 1
            self.assert_told(rows, many, [number // common for number in fit])

    def test_fit_list_that_no_lone_list_was_put_together_for(self):
        drawn = Numbers(16)
        for how_many in range(1, 6):
            for _ in range(10):
                rows, wanted = fitted(drawn, how_many, 7, 4)
                self.assert_told(rows, 7, wanted)

    def test_not_more_shares_than_places(self):
        # The sum of all 36 lone lists has twelve places.
        rows = [[1] * 6 + [-1] * 6]
        for fit in ([6] * 12, list(range(1, 7)) + list(range(6, 0, -1)), [0, 0, 5, 0, 0, 0, 1, 1, 1, 1, 1, 0]):
            self.assert_told(rows, 12, fit)

    def test_twelve_numbers_of_twenty_figures(self):
        drawn = Numbers(17)
        for rows in twelve_rows():
            found = lone(rows, 12)
            for low in (0, 10 ** 18):
                often = [drawn.number(low, 10 ** 19) for _ in found[:6]]
                self.assert_told(rows, 12, [int(number) for number in together(found[:6], often, 12)])
            self.assert_told(rows, 12, [sum(one[at] for one in found) for at in range(12)])

    def test_fit_list_of_many_figures(self):
        rows = [[THIRTY, 1, 1 - THIRTY, -7], [3, -THIRTY, 5, THIRTY - 2]]
        found = lone(rows, 4)
        self.assertGreater(len(found), 1)
        self.assert_told(rows, 4, [sum(one[at] for one in found) for at in range(4)])
        self.assert_told(rows, 4, [sum(one[at] * (10 ** 400 + k) for k, one in enumerate(found)) for at in range(4)])


class NoFitTest(unittest.TestCase):
    def test_another_length(self):
        for fit in ([], [1], [1, 1, 0], [0], [0, 0, 0]):
            assert_refused(self, NoFit, shares, [[1, -1]], 2, fit)
        assert_refused(self, NoFit, shares, [], 2, [1])
        assert_refused(self, NoFit, shares, [], 0, [0])
        assert_refused(self, NoFit, shares, [], 1, [])
        assert_refused(self, NoFit, shares, [[]], 0, [1])

    def test_number_below_nought(self):
        for fit in ([-1, -1], [-THIRTY, -THIRTY]):
            assert_refused(self, NoFit, shares, [[1, -1]], 2, fit)
        assert_refused(self, NoFit, shares, [[1, 1]], 2, [1, -1])
        assert_refused(self, NoFit, shares, [[1, 1]], 2, [-1, 1])
        assert_refused(self, NoFit, shares, [], 3, [5, 0, -1])
        assert_refused(self, NoFit, shares, [[0, 0]], 2, [-1, 4])

    def test_not_still(self):
        for fit in ([1, 0], [0, 1], [1, 2], [THIRTY, THIRTY - 1]):
            assert_refused(self, NoFit, shares, [[1, -1]], 2, fit)
        assert_refused(self, NoFit, shares, [[5]], 1, [1])
        # Still by the first row alone, then by the last one alone.
        assert_refused(self, NoFit, shares, [[1, -1, 0], [0, 1, -1]], 3, [2, 2, 1])
        assert_refused(self, NoFit, shares, [[1, -1, 0], [0, 1, -1]], 3, [1, 2, 2])

    def test_not_still_by_one_in_many_figures(self):
        self.assertEqual(shares([[THIRTY, -1]], 2, [THIRTY, THIRTY ** 2]), [((THIRTY, 1), [1, THIRTY])])
        assert_refused(self, NoFit, shares, [[THIRTY, -1]], 2, [THIRTY, THIRTY ** 2 + 1])

    def test_all_at_once(self):
        assert_refused(self, NoFit, shares, [[1, -1]], 2, [1, -1, 3])

    def test_neighbours_of_fit_lists(self):
        for rows, many in some_rows():
            for one in lone(rows, many):
                for at in range(many):
                    if any(row[at] != 0 for row in rows):
                        near = list(one)
                        near[at] += 1
                        assert_refused(self, NoFit, shares, rows, many, near)


class OwnListsTest(unittest.TestCase):
    CASES = [
        ([[1, 1, -2]], [4, 6, 5]), ([[0, 0, 0]], [1, 2, 3]), ([], [3, 0, 1]), ([[1, -2, 0], [0, 3, -1]], [4, 2, 6]),
        ([[1, 1, -2]], [0, 0, 0]),
    ]

    def asked(self, rows, fit):
        return [lone(rows, 3), shares(rows, 3, fit)]

    def test_handed_lists_stay_as_they_were(self):
        for rows, fit in self.CASES:
            handed, handed_fit = copy.deepcopy(rows), list(fit)
            self.asked(handed, handed_fit)
            self.assertEqual((handed, handed_fit), (rows, fit))

    def test_handed_lists_stay_as_they_were_where_refused(self):
        rows, fit = [[1, -1], [0, 0]], [1, 2]
        assert_refused(self, NoFit, shares, rows, 2, fit)
        self.assertEqual((rows, fit), ([[1, -1], [0, 0]], [1, 2]))

    def test_told_lists_are_the_askers_own(self):
        for rows, fit in self.CASES:
            handed, handed_fit = copy.deepcopy(rows), list(fit)
            told = self.asked(handed, handed_fit)
            before = copy.deepcopy(told)
            for one in told[0] + [part[1] for part in told[1]]:
                one[0] = 99
                one.append(98)
            told[0].append([97])
            told[1].append(((1, 1), [96]))
            self.assertEqual((handed, handed_fit), (rows, fit))
            self.assertEqual(self.asked(handed, handed_fit), before)

    def test_handed_lists_changed_behind_the_call(self):
        for rows, fit in self.CASES:
            handed, handed_fit = copy.deepcopy(rows), list(fit)
            told = self.asked(handed, handed_fit)
            before = copy.deepcopy(told)
            for row in handed:
                row[0] = 99
            handed.append([5, 5, 5])
            handed_fit.reverse()
            handed_fit.append(4)
            self.assertEqual(told, before)


if __name__ == "__main__":
    unittest.main()
