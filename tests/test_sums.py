"""Promises 17 to 19, and what promises 2 and 3 say of weights."""

import copy
import unittest
from fractions import Fraction
from math import gcd

from modeyard.errors import NoBalance, NoWeights
from modeyard.sums import is_kept, kept, kept_shares, pool_shares, pools, weighed
from modeyard.yards import Yard
from reckon import (
    Numbers, assert_ratio, assert_refused, assert_shares, assert_whole, dot, rank, searched_lone, together,
)
from some_yards import THIRTY, all_told, bakery, ring, some_yards


def changes(yard):
    return [yard.change(at) for at in range(len(yard.names()))]


def water():
    """Two goods make a third one and come of it again; a fourth one stays by itself."""
    return Yard(
        ["gas", "air", "water", "stone"],
        [
            ("burn", [("gas", 2), ("air", 1)], [("water", 2)]),
            ("split", [("water", 2)], [("gas", 2), ("air", 1)]),
        ],
    )


class WeighedTest(unittest.TestCase):
    def test_ordinary(self):
        self.assertEqual(weighed(water(), [1, 16, 18, 60], [2, 1, 0, 3]), 198)
        self.assertEqual(weighed(water(), [1, -2, 0, 3], [5, 4, 9, 1]), 0)
        self.assertEqual(weighed(water(), [1, -2, 0, 3], [-5, 4, 9, 0]), -13)
        self.assertEqual(weighed(water(), [0, 0, 0, 0], [5, 4, 9, 1]), 0)
        self.assertIs(type(weighed(water(), [1, 1, 1, 1], [1, 0, 0, 0])), int)

    def test_without_goods(self):
        self.assertEqual(weighed(Yard([], []), [], []), 0)

    def test_thirty_figures(self):
        self.assertEqual(weighed(Yard(["a", "b"], []), [THIRTY, -THIRTY], [THIRTY, THIRTY - 1]), THIRTY)

    def test_another_length(self):
        for weights in ([], [1, 2, 3], [1, 2, 3, 4, 5], [0, 0, 0], [0, 0, 0, 0, 0]):
            assert_refused(self, NoWeights, weighed, water(), weights, [1, 1, 1, 1])
        assert_refused(self, NoWeights, weighed, Yard([], []), [0], [])


class IsKeptTest(unittest.TestCase):
    def test_ordinary(self):
        for weights in ([1, 0, 1, 0], [0, 2, 1, 0], [0, 0, 0, 1], [1, 16, 9, 4], [1, -2, 0, -5], [0, 0, 0, 0]):
            self.assertIs(is_kept(water(), weights), True)
        for weights in ([1, 0, 0, 0], [0, 1, 0, 0], [0, 0, 1, 0], [1, 16, 8, 4], [1, -2, 1, -5]):
            self.assertIs(is_kept(water(), weights), False)

    def test_kept_by_some_works_alone(self):
        # The works' changes make up for one another, but each of them is weighed by itself.
        yard = Yard(["a"], [("up", [], [("a", 1)]), ("down", [("a", 1)], [])])
        self.assertIs(is_kept(yard, [1]), False)
        yard = Yard(["a", "b"], [("same", [("a", 1)], [("a", 1)]), ("turn", [("a", 1)], [("b", 2)])])
        self.assertIs(is_kept(yard, [2, 1]), True)
        self.assertIs(is_kept(yard, [1, 1]), False)

    def test_without_works(self):
        yard = Yard(["a", "b"], [])
        for weights in ([0, 0], [1, 0], [-7, THIRTY]):
            self.assertIs(is_kept(yard, weights), True)

    def test_without_goods(self):
        self.assertIs(is_kept(Yard([], []), []), True)
        self.assertIs(is_kept(Yard([], [("w", [], [])]), []), True)

    def test_thirty_figures(self):
        yard = Yard(["a", "b"], [("turn", [("a", THIRTY)], [("b", THIRTY - 1)])])
        self.assertIs(is_kept(yard, [THIRTY - 1, THIRTY]), True)
        self.assertIs(is_kept(yard, [THIRTY, THIRTY]), False)

    def test_another_length(self):
        for weights in ([], [1, 0, 1], [1, 0, 1, 0, 0], [0, 0, 0], [0, 0, 0, 0, 0]):
            assert_refused(self, NoWeights, is_kept, water(), weights)
        assert_refused(self, NoWeights, is_kept, Yard([], []), [0])
        assert_refused(self, NoWeights, is_kept, Yard(["a"], []), [])


class KeptTest(unittest.TestCase):
    def test_ordinary(self):
        self.assertEqual(kept(water()), [[1, 0, 1, 0], [0, 2, 1, 0], [0, 0, 0, 1]])
        self.assertEqual(kept(ring()), [[1, 1, 1, 0]])
        self.assertEqual(kept(bakery()), [])

    def test_weights_below_nought(self):
        yard = Yard(["a", "b"], [("make", [], [("a", 2), ("b", 3)])])
        self.assertEqual(kept(yard), [[3, -2]])

    def test_without_works_each_good_is_kept(self):
        self.assertEqual(kept(Yard(["a", "b", "c"], [])), [[1, 0, 0], [0, 1, 0], [0, 0, 1]])

    def test_without_goods(self):
        self.assertEqual(kept(Yard([], [])), [])
        self.assertEqual(kept(Yard([], [("w", [], [])])), [])

    def test_works_that_change_nothing(self):
        yard = Yard(["a", "b"], [("rest", [], []), ("same", [("a", 4), ("b", 1)], [("b", 1), ("a", 4)])])
        self.assertEqual(kept(yard), [[1, 0], [0, 1]])

    def test_thirty_figures(self):
        yard = Yard(["a", "b"], [("turn", [("a", THIRTY)], [("b", THIRTY - 1)])])
        self.assertEqual(kept(yard), [[THIRTY - 1, THIRTY]])

    def test_all_are_kept_and_are_plain_rows_of_all(self):
        for yard in some_yards():
            told, many = kept(yard), len(yard.goods())
            leads = []
            for row in told:
                assert_whole(self, row)
                self.assertIs(is_kept(yard, row), True)
                self.assertEqual([weighed(yard, row, change) for change in changes(yard)], [0] * len(yard.names()))
                self.assertEqual(gcd(*row), 1)
                leads.append(next(at for at in range(many) if row[at] != 0))
                self.assertGreater(row[leads[-1]], 0)
                self.assertEqual(sum(other[leads[-1]] != 0 for other in told), 1)
            self.assertEqual(leads, sorted(leads))
            self.assertEqual(len(told), many - rank(changes(yard), many))

    def test_what_a_way_leaves_weighs_nothing(self):
        drawn = Numbers(31)
        for yard in some_yards():
            left = yard.leaves(drawn.row(len(yard.names()), 0, 9))
            for row in kept(yard):
                self.assertEqual(weighed(yard, row, left), 0)


class KeptSharesTest(unittest.TestCase):
    def assert_told(self, yard, weights):
        told = kept_shares(yard, weights)
        self.assertIs(type(told), list)
        rows = kept(yard)
        self.assertEqual(len(told), len(rows))
        for share in told:
            assert_ratio(self, share)
        self.assertEqual(together(rows, [Fraction(*share) for share in told], len(weights)), weights)

    def test_ordinary(self):
        self.assertEqual(kept_shares(water(), [1, 16, 9, 4]), [(1, 1), (8, 1), (4, 1)])
        self.assertEqual(kept_shares(ring(), [5, 5, 5, 0]), [(5, 1)])

    def test_nought_and_below(self):
        self.assertEqual(kept_shares(water(), [1, -2, 0, -5]), [(1, 1), (-1, 1), (-5, 1)])
        self.assertEqual(kept_shares(water(), [0, 0, 0, 3]), [(0, 1), (0, 1), (3, 1)])
        self.assertEqual(kept_shares(ring(), [-4, -4, -4, 0]), [(-4, 1)])

    def test_noughts(self):
        for yard in some_yards():
            self.assertEqual(kept_shares(yard, [0] * len(yard.goods())), [(0, 1)] * len(kept(yard)))

    def test_ratios_that_are_no_whole_numbers(self):
        yard = Yard(["a", "b", "c"], [("w", [("a", 1), ("b", 1)], [("c", 2)])])
        self.assertEqual(kept(yard), [[2, 0, 1], [0, 2, 1]])
        self.assertEqual(kept_shares(yard, [1, 1, 1]), [(1, 2), (1, 2)])
        self.assertEqual(kept_shares(yard, [1, -1, 0]), [(1, 2), (-1, 2)])

    def test_leads_above_one(self):
        yard = Yard(["a", "b", "c"], [("w", [("a", 3), ("b", 2)], [("c", 6)])])
        self.assertEqual(kept(yard), [[2, 0, 1], [0, 3, 1]])
        self.assertEqual(kept_shares(yard, [2, -3, 0]), [(1, 1), (-1, 1)])
        self.assertEqual(kept_shares(yard, [4, 3, 3]), [(2, 1), (1, 1)])

    def test_without_works_and_without_goods(self):
        self.assertEqual(kept_shares(Yard(["a", "b"], []), [7, -9]), [(7, 1), (-9, 1)])
        self.assertEqual(kept_shares(Yard([], []), []), [])
        self.assertEqual(kept_shares(Yard([], [("w", [], [])]), []), [])
        self.assertEqual(kept_shares(bakery(), [0, 0, 0, 0]), [])

    def test_sums_of_kept_sums(self):
        drawn = Numbers(32)
        for yard in some_yards():
            rows, many = kept(yard), len(yard.goods())
            for size in (1, 9, 10 ** 20):
                weights = [int(one) for one in together(rows, drawn.row(len(rows), -size, size), many)]
                self.assert_told(yard, weights)
                if any(weights):
                    self.assert_told(yard, [one // gcd(*weights) for one in weights])

    def test_all_kept_weights_of_few_figures(self):
        yard, seen = water(), 0
        for at in range(7 ** 4):
            weights = [at // 7 ** place % 7 - 3 for place in range(4)]
            if is_kept(yard, weights):
                seen += 1
                self.assert_told(yard, weights)
            else:
                assert_refused(self, NoBalance, kept_shares, yard, weights)
        self.assertGreater(seen, 50)

    def test_not_kept(self):
        for weights in ([1, 0, 0, 0], [1, 16, 8, 4], [0, 1, 0, 0], [THIRTY, 0, THIRTY - 1, 0]):
            assert_refused(self, NoBalance, kept_shares, water(), weights)
        assert_refused(self, NoBalance, kept_shares, bakery(), [0, 0, 0, 1])

    def test_another_length_ahead_of_not_kept(self):
        for weights in ([], [1], [1, 0, 1], [1, 0, 1, 0, 0], [1, 0, 0, 0, 0], [0, 0, 0]):
            assert_refused(self, NoWeights, kept_shares, water(), weights)
        assert_refused(self, NoWeights, kept_shares, Yard([], []), [0])
        assert_refused(self, NoWeights, kept_shares, Yard(["a"], []), [])


class PoolsTest(unittest.TestCase):
    def test_ordinary(self):
        self.assertEqual(pools(water()), [[0, 0, 0, 1], [0, 2, 1, 0], [1, 0, 1, 0]])
        self.assertEqual(pools(ring()), [[1, 1, 1, 0]])
        self.assertEqual(pools(bakery()), [])

    def test_kept_sum_that_is_no_pool(self):
        self.assertEqual(pools(Yard(["a", "b"], [("make", [], [("a", 2), ("b", 3)])])), [])

    def test_more_pools_than_kept_sums(self):
        yard = Yard(["a", "b", "c", "d"], [("turn", [("a", 1), ("b", 1)], [("c", 1), ("d", 1)])])
        self.assertEqual(len(kept(yard)), 3)
        self.assertEqual(pools(yard), [[0, 1, 0, 1], [0, 1, 1, 0], [1, 0, 0, 1], [1, 0, 1, 0]])

    def test_without_works_and_without_goods(self):
        self.assertEqual(pools(Yard(["a", "b", "c"], [])), [[0, 0, 1], [0, 1, 0], [1, 0, 0]])
        self.assertEqual(pools(Yard([], [])), [])
        self.assertEqual(pools(Yard([], [("w", [], [])])), [])

    def test_thirty_figures(self):
        yard = Yard(["a", "b"], [("turn", [("a", THIRTY)], [("b", THIRTY - 1)])])
        self.assertEqual(pools(yard), [[THIRTY - 1, THIRTY]])

    def test_against_a_search_through_all_choices(self):
        for yard in some_yards():
            many = len(yard.goods())
            if many <= 7:
                self.assertEqual(pools(yard), searched_lone(changes(yard), many))

    def test_all_are_kept(self):
        for yard in some_yards():
            for pool in pools(yard):
                assert_whole(self, pool)
                self.assertIs(is_kept(yard, pool), True)
                self.assertGreaterEqual(min(pool), 0)


class PoolSharesTest(unittest.TestCase):
    def test_ordinary(self):
        told = pool_shares(water(), [1, 16, 9, 4])
        self.assertEqual(sorted(told), [((1, 1), [1, 0, 1, 0]), ((4, 1), [0, 0, 0, 1]), ((8, 1), [0, 2, 1, 0])])
        self.assertEqual(pool_shares(ring(), [5, 5, 5, 0]), [((5, 1), [1, 1, 1, 0])])

    def test_noughts(self):
        for yard in some_yards():
            self.assertEqual(pool_shares(yard, [0] * len(yard.goods())), [])

    def test_sums_of_pools(self):
        drawn = Numbers(33)
        for yard in some_yards():
            found = pools(yard)
            for size in (2, 10 ** 20):
                weights = [int(one) for one in together(found, drawn.row(len(found), 0, size), len(yard.goods()))]
                assert_shares(self, pool_shares(yard, weights), weights, found)

    def test_all_weights_of_few_figures(self):
        yard, found, seen = water(), pools(water()), 0
        for at in range(6 ** 4):
            weights = [at // 6 ** place % 6 - 1 for place in range(4)]
            if is_kept(yard, weights) and min(weights) >= 0:
                seen += 1
                assert_shares(self, pool_shares(yard, weights), weights, found)
            else:
                assert_refused(self, NoBalance, pool_shares, yard, weights)
        self.assertGreater(seen, 20)

    def test_without_works_and_without_goods(self):
        assert_shares(self, pool_shares(Yard(["a", "b"], []), [7, 9]), [7, 9], [[0, 1], [1, 0]])
        self.assertEqual(pool_shares(Yard([], []), []), [])
        self.assertEqual(pool_shares(Yard([], [("w", [], [])]), []), [])

    def test_kept_but_one_below_nought(self):
        for weights in ([1, -2, 0, 0], [0, 0, 0, -1], [-1, 0, -1, 0], [5, -2, 4, 3]):
            self.assertIs(is_kept(water(), weights), True)
            assert_refused(self, NoBalance, pool_shares, water(), weights)

    def test_not_kept(self):
        for weights in ([1, 0, 0, 0], [1, 16, 8, 4], [-1, 0, 0, 0], [THIRTY, 0, THIRTY - 1, 0]):
            assert_refused(self, NoBalance, pool_shares, water(), weights)

    def test_another_length_ahead_of_the_rest(self):
        for weights in ([], [1], [1, 0, 1], [1, 0, 1, 0, 0], [1, 0, 0, 0, 0], [-1, 0, -1], [1, 0, 1, 0, -1], [0, 0, 0]):
            assert_refused(self, NoWeights, pool_shares, water(), weights)
        assert_refused(self, NoWeights, pool_shares, Yard([], []), [-1])
        assert_refused(self, NoWeights, pool_shares, Yard(["a"], []), [])


class OwnListsTest(unittest.TestCase):
    WEIGHTS = [1, 16, 9, 4]

    def asked(self, yard, weights):
        return [
            kept(yard), kept_shares(yard, weights), pools(yard), pool_shares(yard, weights),
            is_kept(yard, weights), weighed(yard, weights, [1, 2, 3, 4]),
        ]

    def test_handed_lists_stay_as_they_were(self):
        weights, amounts = list(self.WEIGHTS), [1, 2, 3, 4]
        self.asked(water(), weights)
        weighed(water(), weights, amounts)
        self.assertEqual((weights, amounts), (self.WEIGHTS, [1, 2, 3, 4]))

    def test_handed_lists_stay_as_they_were_where_refused(self):
        for ask in (kept_shares, pool_shares):
            for wrong, kind in (([1, 0, 0, 0], NoBalance), ([3, 1], NoWeights)):
                weights = list(wrong)
                assert_refused(self, kind, ask, water(), weights)
                self.assertEqual(weights, wrong)

    def test_told_lists_are_the_askers_own(self):
        yard, weights = water(), list(self.WEIGHTS)
        before, yard_before = copy.deepcopy(self.asked(yard, weights)), copy.deepcopy(all_told(yard))
        told = self.asked(yard, weights)
        for one in told[0] + told[2] + [part[1] for part in told[3]]:
            one[0] = 99
            one.append(98)
        for lists in told[:4]:
            lists.reverse()
            lists.append("more")
        self.assertEqual(self.asked(yard, weights), before)
        self.assertEqual(all_told(yard), yard_before)
        self.assertEqual(weights, self.WEIGHTS)

    def test_weights_changed_behind_the_call(self):
        weights = list(self.WEIGHTS)
        told = self.asked(water(), weights)
        before = copy.deepcopy(told)
        weights.reverse()
        weights.append(5)
        self.assertEqual(told, before)


class PromiseTest(unittest.TestCase):
    """Promise 3: every kept sum is a sum of multiples of those that are told."""

    def test_no_kept_weights_beside_sums_of_these(self):
        for yard in (water(), ring(), bakery(), Yard(["a", "b", "c", "d"], [])):
            rows = kept(yard)
            for at in range(5 ** 4):
                weights = [at // 5 ** place % 5 - 2 for place in range(4)]
                is_sum = rank(rows + [weights], 4) == len(rows)
                self.assertIs(is_kept(yard, weights), is_sum)
                self.assertIs(all(dot(weights, change) == 0 for change in changes(yard)), is_sum)


if __name__ == "__main__":
    unittest.main()
