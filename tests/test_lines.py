"""Promises 10 to 13, and what promise 2 says of rows."""

import copy
import unittest
from fractions import Fraction
from math import gcd

from modeyard.lines import made_of, plain, still
from reckon import Numbers, assert_whole, dot, rank, same_sums, together

THIRTY = 10 ** 30 - 1


def some_rows():
    """Rows of many kinds, each with how many numbers they have."""
    drawn = Numbers(1)
    told = [
        ([], 0), ([], 1), ([], 3), ([], 12), ([[]], 0), ([[], [], []], 0),
        ([[0]], 1), ([[5]], 1), ([[-5]], 1), ([[-THIRTY]], 1), ([[0], [0], [-4], [6]], 1),
        ([[0, 0, 0]], 3), ([[0, 0], [0, 0], [0, 0]], 2),
        ([[0, 0, -2], [0, 0, 3]], 3), ([[0, 0, 4], [0, -6, 0], [10, 0, 0]], 3),
        ([[1, 2, 3], [2, 4, 6], [-3, -6, -9]], 3), ([[1, 2, 3], [4, 5, 6], [5, 7, 9], [3, 3, 3]], 3),
        ([[2, 1], [1, 2]], 2), ([[6, 10, 15]], 3), ([[THIRTY, -THIRTY], [THIRTY, THIRTY - 1]], 2),
        ([[1] * 12] * 12, 12),
    ]
    for size in (1, 3, 10 ** 9 - 1, 10 ** 25 - 1, THIRTY):
        for how_many, many in ((1, 4), (2, 2), (3, 5), (4, 3), (5, 5), (7, 4), (6, 12), (11, 12), (12, 12), (12, 7)):
            rows = drawn.rows(how_many, many, -size, size)
            told.append((rows, many))
            told.append((with_sums(drawn, rows, many, 3), many))
    for _ in range(150):
        many = drawn.number(0, 5)
        told.append((drawn.rows(drawn.number(0, 5), many, -2, 2), many))
    return told


def with_sums(drawn, rows, many, size):
    """As many rows as these, but the last two are sums of the others."""
    kept = rows[:-2]
    sums = [together(kept, drawn.row(len(kept), -size, size), many) for _ in rows[-2:]]
    return kept + [[int(number) for number in row] for row in sums]


class PlainCase(unittest.TestCase):
    def assert_plain_form(self, told, many):
        self.assertIs(type(told), list)
        for row in told:
            assert_whole(self, row)
            self.assertEqual(len(row), many)
            self.assertTrue(any(row))
            self.assertEqual(gcd(*row), 1)
        leads = [next(at for at in range(many) if row[at] != 0) for row in told]
        self.assertEqual(leads, sorted(set(leads)))
        for place, lead in enumerate(leads):
            self.assertGreater(told[place][lead], 0)
            self.assertEqual([row[lead] for at, row in enumerate(told) if at != place], [0] * (len(told) - 1))


class PlainTest(PlainCase):
    def test_ordinary(self):
        self.assertEqual(plain([[2, 4]], 2), [[1, 2]])
        self.assertEqual(plain([[-2, 4]], 2), [[1, -2]])
        self.assertEqual(plain([[0, -3, 6]], 3), [[0, 1, -2]])
        self.assertEqual(plain([[1, 2, 3], [4, 5, 6]], 3), [[1, 0, -1], [0, 1, 2]])
        self.assertEqual(plain([[2, 1, 1], [0, 3, 2]], 3), [[6, 0, 1], [0, 3, 2]])

    def test_lead_above_one(self):
        self.assertEqual(plain([[6, 10, 15]], 3), [[6, 10, 15]])
        self.assertEqual(plain([[0, -4, 0, 6]], 4), [[0, 2, 0, -3]])
        self.assertEqual(plain([[3, 0, 1], [0, 5, 1]], 3), [[3, 0, 1], [0, 5, 1]])

    def test_leads_that_do_not_stand_side_by_side(self):
        self.assertEqual(plain([[0, 2, 4, 1, 0], [0, 1, 2, 0, 3]], 5), [[0, 1, 2, 0, 3], [0, 0, 0, 1, -6]])

    def test_no_rows(self):
        for many in range(13):
            self.assertEqual(plain([], many), [])

    def test_rows_without_numbers(self):
        self.assertEqual(plain([[]], 0), [])
        self.assertEqual(plain([[], [], []], 0), [])

    def test_noughts(self):
        self.assertEqual(plain([[0]], 1), [])
        self.assertEqual(plain([[0, 0, 0], [0, 0, 0]], 3), [])
        self.assertEqual(plain([[0, 0], [0, 3], [0, 0]], 2), [[0, 1]])

    def test_multiples_and_sums(self):
        self.assertEqual(plain([[1, 2, 3], [2, 4, 6], [-3, -6, -9]], 3), [[1, 2, 3]])
        self.assertEqual(plain([[1, 0, 2], [0, 1, 3], [1, 1, 5], [2, -1, 1]], 3), [[1, 0, 2], [0, 1, 3]])

    def test_all_lists_come_of_as_many_rows_as_numbers(self):
        self.assertEqual(plain([[3, 1, 4], [1, 5, 9], [2, 6, 5]], 3), [[1, 0, 0], [0, 1, 0], [0, 0, 1]])

    def test_thirty_figures(self):
        self.assertEqual(plain([[THIRTY, -THIRTY]], 2), [[1, -1]])
        self.assertEqual(plain([[-THIRTY, THIRTY - 1]], 2), [[THIRTY, 1 - THIRTY]])
        self.assertEqual(plain([[THIRTY, THIRTY - 1, 1], [1, 1, 0]], 3), [[1, 0, 1], [0, 1, -1]])
        # A way by floats would take these two rows for multiples of one another.
        self.assertEqual(plain([[THIRTY, THIRTY - 1], [THIRTY - 1, THIRTY - 2]], 2), [[1, 0], [0, 1]])

    def test_form_and_sums_of_many_rows(self):
        for rows, many in some_rows():
            told = plain(rows, many)
            self.assert_plain_form(told, many)
            self.assertTrue(same_sums(rows, told, many), rows)

    def test_plain_rows_of_plain_rows(self):
        for rows, many in some_rows():
            told = plain(rows, many)
            self.assertEqual(plain(told, many), told)
            self.assertEqual(plain(told[::-1], many), told)

    def test_the_same_of_other_rows_with_the_same_sums(self):
        drawn = Numbers(2)
        for rows, many in some_rows():
            told = plain(rows, many)
            by = [drawn.number(1, 9) * (-1) ** drawn.number(0, 1) for _ in rows]
            others = [[number * times for number in row] for row, times in zip(rows, by)]
            for _ in range(2):
                others.append([0] * many)
                others.append([int(one) for one in together(rows, drawn.row(len(rows), -5, 5), many)])
            self.assertEqual(plain(drawn.shuffled(rows), many), told)
            self.assertEqual(plain(others, many), told)
            self.assertEqual(plain(drawn.shuffled(others), many), told)

    def test_told_rows_of_many_figures_handed_in_again(self):
        rows = Numbers(3).rows(6, 12, -THIRTY, THIRTY)
        told = plain(rows, 12)
        self.assertGreater(max(max(row) for row in told), 10 ** 100)
        mixed = [[one + 7 * other for one, other in zip(told[at], told[at - 1])] for at in range(6)]
        self.assertEqual(plain(mixed, 12), told)


class StillTest(PlainCase):
    def test_ordinary(self):
        self.assertEqual(still([[1, 1]], 2), [[1, -1]])
        self.assertEqual(still([[1, -1]], 2), [[1, 1]])
        self.assertEqual(still([[2, 3]], 2), [[3, -2]])
        self.assertEqual(still([[1, 2, 3], [4, 5, 6]], 3), [[1, -2, 1]])
        self.assertEqual(still([[1, 1, 1]], 3), [[1, 0, -1], [0, 1, -1]])
        self.assertEqual(still([[0, 1, 0]], 3), [[1, 0, 0], [0, 0, 1]])
        self.assertEqual(still([[1, -2, 0], [0, 3, -1]], 3), [[2, 1, 3]])

    def test_of_no_rows_each_list_is_still(self):
        self.assertEqual(still([], 0), [])
        self.assertEqual(still([], 1), [[1]])
        self.assertEqual(still([], 3), [[1, 0, 0], [0, 1, 0], [0, 0, 1]])
        self.assertEqual(still([], 12), [[0] * at + [1] + [0] * (11 - at) for at in range(12)])

    def test_noughts(self):
        self.assertEqual(still([[0, 0], [0, 0]], 2), [[1, 0], [0, 1]])
        self.assertEqual(still([[0]], 1), [[1]])

    def test_rows_without_numbers(self):
        self.assertEqual(still([[]], 0), [])
        self.assertEqual(still([[], []], 0), [])

    def test_nothing_is_still_but_noughts(self):
        self.assertEqual(still([[5]], 1), [])
        self.assertEqual(still([[2, 1], [1, 2]], 2), [])
        self.assertEqual(still([[1, 1], [1, -1], [3, 4]], 2), [])

    def test_thirty_figures(self):
        self.assertEqual(still([[THIRTY, THIRTY - 1]], 2), [[THIRTY - 1, -THIRTY]])
        self.assertEqual(still([[THIRTY, -THIRTY]], 2), [[1, 1]])

    def test_many_rows(self):
        for rows, many in some_rows():
            told = still(rows, many)
            self.assert_plain_form(told, many)
            for row in rows:
                self.assertEqual([dot(row, one) for one in told], [0] * len(told))
            self.assertEqual(len(told) + rank(rows, many), many)

    def test_plain_and_still_rows_are_as_many_as_numbers(self):
        for rows, many in some_rows():
            self.assertEqual(len(plain(rows, many)) + len(still(rows, many)), many)

    def test_still_rows_of_still_rows_are_the_plain_rows(self):
        for rows, many in some_rows():
            self.assertEqual(still(still(rows, many), many), plain(rows, many))


class MadeOfTest(unittest.TestCase):
    def assert_made(self, rows, goal):
        told = made_of(rows, goal)
        self.assertIs(type(told), tuple)
        bottom, times = told
        assert_whole(self, [bottom])
        self.assertGreaterEqual(bottom, 1)
        assert_whole(self, times)
        self.assertEqual(len(times), len(rows))
        self.assertEqual(together(rows, times, len(goal)), [bottom * number for number in goal])

    def test_ordinary(self):
        self.assert_made([[1, 0], [0, 1]], [3, -4])
        self.assert_made([[1, 2], [3, 4]], [5, 6])
        self.assert_made([[2, 0], [0, 3]], [1, 1])
        self.assert_made([[-2, 4]], [1, -2])
        self.assertIsNone(made_of([[1, 2]], [1, 3]))
        self.assertIsNone(made_of([[1, 0, 0], [0, 1, 0]], [0, 0, 1]))

    def test_rows_themselves(self):
        for rows, many in some_rows():
            for row in rows:
                self.assert_made(rows, row)

    def test_noughts(self):
        for rows, many in some_rows():
            self.assert_made(rows, [0] * many)

    def test_no_rows(self):
        for many in range(13):
            self.assert_made([], [0] * many)
        self.assertIsNone(made_of([], [1]))
        self.assertIsNone(made_of([], [0, 0, -1]))

    def test_rows_without_numbers(self):
        self.assert_made([[]], [])
        self.assert_made([[], [], []], [])

    def test_rows_of_noughts(self):
        self.assert_made([[0, 0]], [0, 0])
        self.assertIsNone(made_of([[0, 0], [0, 0]], [0, 1]))

    def test_sums_by_whole_numbers(self):
        drawn = Numbers(4)
        for rows, many in some_rows():
            for size in (1, 20, THIRTY):
                goal = together(rows, drawn.row(len(rows), -size, size), many)
                self.assert_made(rows, [int(number) for number in goal])

    def test_sums_by_ratios(self):
        drawn = Numbers(5)
        for rows, many in some_rows():
            often = [Fraction(drawn.number(-50, 50), drawn.number(1, 30)) for _ in rows]
            goal = together(rows, often, many)
            # A goal is of whole numbers, so the sum is multiplied until it is.
            bottom = 1
            for number in goal:
                bottom = bottom * number.denominator // gcd(bottom, number.denominator)
            self.assert_made(rows, [int(number * bottom) for number in goal])

    def test_bottom_that_is_needed(self):
        bottom, times = made_of([[2, 4]], [1, 2])
        self.assertEqual(2 * times[0], bottom)
        bottom, times = made_of([[6, 0], [0, 10]], [1, -1])
        self.assertEqual((6 * times[0], 10 * times[1]), (bottom, -bottom))

    def test_goals_that_are_no_sum(self):
        drawn = Numbers(6)
        found = 0
        for rows, many in some_rows():
            for size in (1, 9):
                goal = drawn.row(many, -size, size)
                if rank(rows + [goal], many) > rank(rows, many):
                    found += 1
                    self.assertIsNone(made_of(rows, goal))
                else:
                    self.assert_made(rows, goal)
        self.assertGreater(found, 100)

    def test_goal_that_is_near_a_sum(self):
        rows = [[THIRTY, THIRTY - 1, 1], [1, THIRTY, THIRTY]]
        goal = [THIRTY + 1, 2 * THIRTY - 1, THIRTY + 1]
        self.assert_made(rows, goal)
        for at in range(3):
            near = list(goal)
            near[at] += 1
            self.assertIsNone(made_of(rows, near))


class OwnListsTest(unittest.TestCase):
    ROWS = [
        [[4, -6, 0], [2, 1, 1], [0, 0, 0]], [[1, 0, 0], [0, 1, 0]], [[1, 0, 2]], [[3, 0, 0], [0, 1, 0], [0, 0, -1]], [],
    ]

    def asked(self, rows, goal):
        return [plain(rows, 3), still(rows, 3), made_of(rows, goal)]

    def test_handed_lists_stay_as_they_were(self):
        for rows in self.ROWS:
            handed, goal = copy.deepcopy(rows), [2, 1, 1]
            self.asked(handed, goal)
            self.assertEqual(handed, rows)
            self.assertEqual(goal, [2, 1, 1])

    def test_told_lists_are_the_askers_own(self):
        for rows in self.ROWS:
            handed, goal = copy.deepcopy(rows), [0, 0, 0]
            told = self.asked(handed, goal)
            before = copy.deepcopy(told)
            told[2][1].append(7)
            for lists in told[:2]:
                for row in lists:
                    row[0] = 99
                    row.append(98)
                lists.reverse()
                lists.append([97])
            self.assertEqual(handed, rows)
            self.assertEqual(goal, [0, 0, 0])
            self.assertEqual(self.asked(handed, goal), before)

    def test_handed_lists_changed_behind_the_call(self):
        for rows in self.ROWS:
            handed, goal = copy.deepcopy(rows), [0, 0, 0]
            told = self.asked(handed, goal)
            before = copy.deepcopy(told)
            for row in handed:
                row[0] = 99
                row.append(98)
            handed.append([5, 5, 5])
            goal[1] = 4
            self.assertEqual(told, before)

    def test_lists_within_a_told_list_are_apart(self):
        for rows in self.ROWS + [[[1, 1, 1]] * 3]:
            for told in (plain(rows, 3), still(rows, 3)):
                for row in told:
                    row.append(0)
                self.assertEqual([len(row) for row in told], [4] * len(told))


if __name__ == "__main__":
    unittest.main()
