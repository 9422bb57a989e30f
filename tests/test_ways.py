"""Promise 16, and what promises 2 and 3 say of ways."""

import copy
import unittest
from math import gcd

from modeyard.errors import NoBalance, NoWay
from modeyard.ways import parted, ways
from modeyard.yards import Yard
from reckon import Numbers, assert_refused, assert_shares, assert_whole, places, searched_lone, together
from some_yards import THIRTY, all_told, bakery, ring, some_yards


class WaysTest(unittest.TestCase):
    def test_ordinary(self):
        self.assertEqual(ways(bakery()), [[10, 5, 1, 5, 10]])

    def test_works_alike_and_a_work_that_changes_nothing(self):
        self.assertEqual(ways(ring()), [[0, 0, 0, 0, 1, 0], [0, 2, 2, 1, 0, 0], [2, 0, 2, 1, 0, 0]])

    def test_works_that_change_nothing_go_alone(self):
        yard = Yard(["a"], [("rest", [], []), ("same", [("a", 4)], [("a", 4)]), ("more", [], [("a", 1)])])
        self.assertEqual(ways(yard), [[0, 1, 0], [1, 0, 0]])

    def test_works_alike(self):
        bring, send = ([], [("a", 2)]), ([("a", 3)], [])
        yard = Yard(["a"], [("b",) + bring, ("c",) + bring, ("s",) + send, ("t",) + send])
        self.assertEqual(ways(yard), [[0, 3, 0, 2], [0, 3, 2, 0], [3, 0, 0, 2], [3, 0, 2, 0]])

    def test_there_and_back(self):
        yard = Yard(["a", "b"], [("to", [("a", 2)], [("b", 3)]), ("fro", [("b", 3)], [("a", 2)])])
        self.assertEqual(ways(yard), [[1, 1]])

    def test_without_goods(self):
        yard = Yard([], [("v", [], []), ("w", [], []), ("x", [], [])])
        self.assertEqual(ways(yard), [[0, 0, 1], [0, 1, 0], [1, 0, 0]])

    def test_without_works(self):
        self.assertEqual(ways(Yard(["a", "b"], [])), [])
        self.assertEqual(ways(Yard([], [])), [])

    def test_no_balanced_way(self):
        self.assertEqual(ways(Yard(["a"], [("b", [], [("a", 1)]), ("c", [], [("a", 2)])])), [])
        self.assertEqual(ways(Yard(["a"], [("b", [("a", 1)], [])])), [])

    def test_thirty_figures(self):
        yard = Yard(["a"], [("in", [], [("a", THIRTY)]), ("out", [("a", THIRTY - 1)], [])])
        self.assertEqual(ways(yard), [[THIRTY - 1, THIRTY]])

    def test_each_balances_and_has_no_common_measure(self):
        for yard in some_yards():
            for way in ways(yard):
                assert_whole(self, way)
                self.assertIs(yard.balanced(way), True)
                self.assertEqual(gcd(*way), 1)

    def test_against_a_search_through_all_choices(self):
        for yard in some_yards():
            many = len(yard.names())
            if many <= 7:
                self.assertEqual(ways(yard), searched_lone(yard.rows(), many))

    def test_ten_goods_and_ten_works(self):
        names = [chr(ord("a") + at) for at in range(10)]
        around = [(name, [(name, at + 1)], [(names[(at + 1) % 10], at + 1)]) for at, name in enumerate(names)]
        self.assertEqual(ways(Yard(names, around)), [[2520, 1260, 840, 630, 504, 420, 360, 315, 280, 252]])


class PartedTest(unittest.TestCase):
    def test_ordinary(self):
        self.assertEqual(parted(bakery(), [20, 10, 2, 10, 20]), [((2, 1), [10, 5, 1, 5, 10])])
        told = parted(ring(), [1, 3, 4, 2, 7, 0])
        self.assertEqual(
            sorted(told),
            [((1, 2), [2, 0, 2, 1, 0, 0]), ((3, 2), [0, 2, 2, 1, 0, 0]), ((7, 1), [0, 0, 0, 0, 1, 0])],
        )

    def test_no_work_goes(self):
        for yard in some_yards():
            self.assertEqual(parted(yard, [0] * len(yard.names())), [])

    def test_sums_of_lone_ways(self):
        drawn = Numbers(22)
        for yard in some_yards():
            found = ways(yard)
            for size in (2, 10 ** 20):
                way = [int(one) for one in together(found, drawn.row(len(found), 0, size), len(yard.names()))]
                self.assertIs(yard.balanced(way), True)
                assert_shares(self, parted(yard, way), way, found)

    def test_all_balanced_ways_of_few_goings(self):
        yard, found, seen = ring(), ways(ring()), 0
        for at in range(4 ** 6):
            way = [at // 4 ** place % 4 for place in range(6)]
            if yard.balanced(way):
                seen += 1
                assert_shares(self, parted(yard, way), way, found)
            else:
                assert_refused(self, NoBalance, parted, yard, way)
        self.assertEqual(seen, 16)

    def test_without_goods_and_without_works(self):
        yard = Yard([], [("v", [], []), ("w", [], [])])
        assert_shares(self, parted(yard, [3, 8]), [3, 8], [[0, 1], [1, 0]])
        self.assertEqual(parted(Yard(["a"], []), []), [])
        self.assertEqual(parted(Yard([], []), []), [])


class RefusalTest(unittest.TestCase):
    def test_not_balanced(self):
        for way in ([1, 0, 0, 0, 0], [10, 5, 1, 5, 9], [10, 5, 2, 5, 10], [THIRTY, 0, 0, 0, THIRTY]):
            assert_refused(self, NoBalance, parted, bakery(), way)
        assert_refused(self, NoBalance, parted, Yard(["a"], [("b", [], [("a", 1)])]), [1])

    def test_no_way(self):
        for way in ([], [10, 5, 1, 5], [10, 5, 1, 5, 10, 0], [0, 0, 0, 0], [0, 0, 0, 0, 0, -1]):
            assert_refused(self, NoWay, parted, bakery(), way)
        for way in ([-10, -5, -1, -5, -10], [0, 0, 0, 0, -1]):
            assert_refused(self, NoWay, parted, bakery(), way)
        assert_refused(self, NoWay, parted, Yard(["a"], []), [0])
        assert_refused(self, NoWay, parted, Yard([], [("v", [], [])]), [])
        assert_refused(self, NoWay, parted, Yard([], [("v", [], [])]), [-1])

    def test_no_way_ahead_of_no_balance(self):
        # Balanced but for the number below 0, then not balanced either.
        assert_refused(self, NoWay, parted, ring(), [1, -1, 0, 0, 0, 0])
        assert_refused(self, NoWay, parted, ring(), [1, -1, 0, 0, 0, 5])
        assert_refused(self, NoWay, parted, ring(), [1, 0, 0, 0, 0])
        assert_refused(self, NoWay, parted, ring(), [1, 0, 0, 0, 0, 0, 0])


class OwnListsTest(unittest.TestCase):
    WAY = [1, 3, 4, 2, 7, 0]

    def test_handed_way_stays_as_it_was(self):
        way = list(self.WAY)
        parted(ring(), way)
        self.assertEqual(way, self.WAY)
        way = [1, 0, 0, 0, 0, 0]
        assert_refused(self, NoBalance, parted, ring(), way)
        self.assertEqual(way, [1, 0, 0, 0, 0, 0])

    def test_told_lists_are_the_askers_own(self):
        yard = ring()
        way = list(self.WAY)
        before, yard_before = copy.deepcopy([ways(yard), parted(yard, way)]), copy.deepcopy(all_told(yard))
        found, told = ways(yard), parted(yard, way)
        for one in found + [part[1] for part in told]:
            one[0] = 99
            one.append(98)
        found.reverse()
        told.clear()
        self.assertEqual([ways(yard), parted(yard, way)], before)
        self.assertEqual(all_told(yard), yard_before)
        self.assertEqual(way, self.WAY)

    def test_way_changed_behind_the_call(self):
        way = [0, 2, 2, 1, 0, 0]
        told = parted(ring(), way)
        way[1] = 99
        self.assertEqual(told, [((1, 1), [0, 2, 2, 1, 0, 0])])

    def test_yard_is_not_changed(self):
        for yard in (bakery(), ring()):
            before = copy.deepcopy(all_told(yard))
            ways(yard)
            parted(yard, [0] * len(yard.names()))
            self.assertEqual(all_told(yard), before)


class PromiseTest(unittest.TestCase):
    """Promise 3: no other balanced way goes with the works of a lone one alone, but for its multiples."""

    def test_no_other_way_with_its_works_alone(self):
        for yard in some_yards():
            found = ways(yard)
            for way in found:
                self.assertEqual([one for one in found if set(places(one)) <= set(places(way))], [way])


if __name__ == "__main__":
    unittest.main()
