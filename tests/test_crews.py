"""Promises 22 and 23, and what promise 2 says of what they tell."""

import copy
import unittest

from modeyard.crews import crews, most
from modeyard.errors import NoWork
from modeyard.never import idle, seen
from modeyard.ways import ways
from modeyard.yards import Yard
from reckon import assert_refused, searched_lone
from shown import assert_most, searched_crews, searched_most
from some_yards import NAMES, THIRTY, all_told, bakery, ring, some_yards


def two_mills():
    """Two ways to flour, one of them slower; two works are idle."""
    return Yard(
        ["corn", "flour", "dust", "sand"],
        [
            ("lose", [], [("dust", 2)]),
            ("send", [("flour", 1)], []),
            ("stamp", [("corn", 3)], [("flour", 2)]),
            ("mill", [("corn", 2)], [("flour", 5)]),
            ("sift", [("sand", 1)], []),
            ("bring", [], [("corn", 1)]),
        ],
    )


class Case(unittest.TestCase):
    def assert_told(self, yard, one, other, kind, ratio=None):
        told = most(yard, one, other)
        assert_most(self, yard, one, other, told)
        self.assertEqual(told[0], kind)
        if kind == "most":
            self.assertEqual(told[1], ratio)


class MostTest(Case):
    def test_one_lone_way(self):
        self.assert_told(bakery(), "mill", "oven", "most", (1, 1))
        self.assert_told(bakery(), "bring", "mill", "most", (2, 1))
        self.assert_told(bakery(), "mill", "bring", "most", (1, 2))
        self.assert_told(bakery(), "bring", "well", "most", (10, 1))
        self.assert_told(bakery(), "well", "send", "most", (1, 10))

    def test_best_of_several_ways(self):
        self.assert_told(two_mills(), "send", "bring", "most", (5, 2))
        self.assert_told(two_mills(), "bring", "send", "most", (3, 2))
        self.assert_told(two_mills(), "mill", "bring", "most", (1, 2))
        self.assert_told(two_mills(), "stamp", "send", "most", (1, 2))
        self.assertEqual(most(two_mills(), "send", "bring")[2], [0, 5, 0, 1, 0, 2])
        self.assertEqual(most(two_mills(), "bring", "send")[2], [0, 2, 1, 0, 0, 3])

    def test_free(self):
        self.assertEqual(most(two_mills(), "send", "mill"), ("free", [0, 2, 1, 0, 0, 3]))
        self.assertEqual(most(two_mills(), "send", "stamp"), ("free", [0, 5, 0, 1, 0, 2]))
        self.assertEqual(most(two_mills(), "mill", "stamp"), ("free", [0, 5, 0, 1, 0, 2]))
        self.assertEqual(most(ring(), "stir", "melt"), ("free", [0, 0, 0, 0, 1, 0]))
        self.assert_told(ring(), "melt", "stir", "free")

    def test_both_idle(self):
        self.assert_told(two_mills(), "lose", "sift", "never")
        self.assert_told(two_mills(), "sift", "lose", "never")
        # Weights that show one of these works alone need not show another one.
        yard = Yard(["a", "b"], [("w", [], [("a", 1)]), ("x", [("b", 1)], []), ("y", [("a", 2)], [("a", 9)])])
        for one in "wxy":
            for other in "wxy":
                self.assert_told(yard, one, other, "never")

    def test_one_alone_idle(self):
        for other in ["send", "stamp", "mill", "bring"]:
            for one in ["lose", "sift"]:
                self.assert_told(two_mills(), one, other, "most", (0, 1))

    def test_other_alone_idle(self):
        for one in ["send", "stamp", "mill", "bring"]:
            for other in ["lose", "sift"]:
                self.assert_told(two_mills(), one, other, "free")

    def test_one_and_other_the_same(self):
        for name in ["send", "stamp", "mill", "bring"]:
            self.assert_told(two_mills(), name, name, "most", (1, 1))
        for name in ["lose", "sift"]:
            self.assert_told(two_mills(), name, name, "never")
        self.assert_told(Yard([], [("w", [], [])]), "w", "w", "most", (1, 1))
        self.assert_told(Yard(["a"], [("w", [], [("a", 1)])]), "w", "w", "never")

    def test_works_that_change_nothing(self):
        yard = Yard(["a"], [("rest", [], []), ("same", [("a", 4)], [("a", 4)]), ("more", [], [("a", 1)])])
        self.assertEqual(most(yard, "rest", "same"), ("free", [1, 0, 0]))
        self.assertEqual(most(yard, "same", "rest"), ("free", [0, 1, 0]))
        self.assert_told(yard, "more", "rest", "most", (0, 1))
        self.assert_told(yard, "rest", "more", "free")

    def test_without_goods(self):
        yard = Yard([], [("v", [], []), ("w", [], [])])
        self.assertEqual(most(yard, "v", "w"), ("free", [1, 0]))
        told = most(yard, "w", "w")
        self.assertEqual((told[:3], told[4]), (("most", (1, 1), [0, 1]), []))
        self.assertGreaterEqual(told[3], 1)

    def test_great_numbers(self):
        yard = Yard(["a"], [("in", [], [("a", THIRTY)]), ("out", [("a", THIRTY - 1)], [])])
        self.assert_told(yard, "in", "out", "most", (THIRTY - 1, THIRTY))
        self.assert_told(yard, "out", "in", "most", (THIRTY, THIRTY - 1))
        works = [("in", [], [("a", 1)])]
        works += [(name, [(name, 1)], [(NAMES[at + 1], THIRTY)]) for at, name in enumerate(NAMES[:8])]
        yard = Yard(NAMES[:9], works + [("out", [("i", 1)], [])])
        self.assert_told(yard, "out", "in", "most", (THIRTY ** 8, 1))
        self.assert_told(yard, "in", "out", "most", (1, THIRTY ** 8))
        self.assert_told(yard, "h", "c", "most", (THIRTY ** 5, 1))

    def test_ten_goods_and_ten_works(self):
        around = [(name, [(name, at + 1)], [(NAMES[(at + 1) % 10], at + 1)]) for at, name in enumerate(NAMES)]
        self.assert_told(Yard(NAMES, around), "a", "j", "most", (10, 1))
        self.assert_told(Yard(NAMES, around), "i", "f", "most", (2, 3))
        around[9] = ("j", [("j", 10)], [("a", 11)])
        self.assert_told(Yard(NAMES, around), "i", "f", "never")

    def test_weights_that_weigh_other_works_above_nought(self):
        yard = Yard(
            ["a", "b"],
            [("dear", [], [("a", 1)]), ("cheap", [], [("b", 1)]), ("send", [("a", 1)], []),
             ("turn", [("b", 3)], [("a", 1)]), ("back", [("a", 1)], [("b", 2)])],
        )
        self.assert_told(yard, "back", "turn", "most", (3, 2))
        self.assertEqual(most(yard, "back", "turn")[2], [1, 0, 0, 2, 3])
        self.assert_told(yard, "turn", "back", "free")
        self.assert_told(yard, "turn", "cheap", "free")

    def test_many_yards(self):
        kinds = []
        for yard in some_yards():
            found = ways(yard)
            for one in yard.names():
                for other in yard.names():
                    told = most(yard, one, other)
                    assert_most(self, yard, one, other, told)
                    kinds.append(told[0])
                    if told[0] != "never":
                        self.assertIn(told[-3 if told[0] == "most" else 1], found)
        for kind in ("free", "never", "most"):
            self.assertGreater(kinds.count(kind), 500)

    def test_in_no_lone_way_oftener(self):
        for yard in some_yards():
            for first, one in enumerate(yard.names()):
                for second, other in enumerate(yard.names()):
                    told = most(yard, one, other)
                    if told[0] == "most":
                        for way in ways(yard):
                            self.assertLessEqual(told[1][1] * way[first], told[1][0] * way[second])

    def test_against_a_search_through_all_choices(self):
        for yard in some_yards():
            names = yard.names()
            if len(names) <= 7:
                found = searched_lone(yard.rows(), len(names))
                for first, one in enumerate(names):
                    for second, other in enumerate(names):
                        told = most(yard, one, other)
                        kind, ratio = searched_most(found, first, second)
                        self.assertEqual(told[0], kind)
                        if kind == "most":
                            self.assertEqual(told[1], ratio)


class NoWorkTest(unittest.TestCase):
    def assert_no_work(self, yard, one, other, name):
        assert_refused(self, NoWork, most, yard, one, other)
        with self.assertRaises(NoWork) as taken:
            most(yard, one, other)
        self.assertEqual(taken.exception.name, name)

    def test_one_is_none(self):
        for name in ["", "corn", "Mill", "mill ", "mills"]:
            self.assert_no_work(bakery(), name, "mill", name)

    def test_other_is_none(self):
        for name in ["", "corn", "Mill", "mill ", "mills"]:
            self.assert_no_work(bakery(), "mill", name, name)

    def test_one_ahead_of_other(self):
        self.assert_no_work(bakery(), "xx", "aa", "xx")
        self.assert_no_work(bakery(), "aa", "xx", "aa")
        self.assert_no_work(bakery(), "corn", "corn", "corn")

    def test_also_where_the_first_is_idle(self):
        self.assert_no_work(ring(), "sweep", "dust", "dust")
        self.assert_no_work(ring(), "dust", "sweep", "dust")

    def test_without_works(self):
        self.assert_no_work(Yard([], []), "a", "b", "a")
        self.assert_no_work(Yard(["a"], []), "a", "a", "a")


class CrewsTest(unittest.TestCase):
    def test_all_of_one_crew(self):
        self.assertEqual(crews(bakery()), [["bring", "mill", "well", "oven", "send"]])

    def test_several(self):
        self.assertEqual(crews(ring()), [["melt"], ["thaw"], ["boil", "rime"], ["stir"]])

    def test_idle_works_among_the_others(self):
        self.assertEqual(crews(two_mills()), [["send", "bring"], ["stamp"], ["mill"]])

    def test_the_yards_order(self):
        works = list(reversed(two_mills().works()))
        self.assertEqual(crews(Yard(two_mills().goods(), works)), [["bring", "send"], ["mill"], ["stamp"]])

    def test_one_crew_between_the_works_of_another(self):
        yard = Yard(
            ["a", "b"],
            [("z", [], [("a", 1)]), ("y", [], [("b", 1)]), ("x", [("b", 2)], []), ("w", [("a", 2)], [])],
        )
        self.assertEqual(crews(yard), [["z", "w"], ["y", "x"]])

    def test_one_goes_only_with_the_other_but_not_back(self):
        # The mill goes only where there is bringing, but corn is brought without it, too.
        yard = Yard(
            ["corn", "flour"],
            [("bring", [], [("corn", 1)]), ("mill", [("corn", 1)], [("flour", 1)]), ("sell", [("corn", 1)], []),
             ("send", [("flour", 1)], [])],
        )
        self.assertEqual(crews(yard), [["bring"], ["mill", "send"], ["sell"]])

    def test_no_crews(self):
        self.assertEqual(crews(Yard([], [])), [])
        self.assertEqual(crews(Yard(["a"], [])), [])
        self.assertEqual(crews(Yard(["a"], [("b", [], [("a", 1)]), ("c", [], [("a", 2)])])), [])

    def test_without_goods(self):
        self.assertEqual(crews(Yard([], [("w", [], []), ("v", [], [])])), [["w"], ["v"]])

    def test_each_work_that_is_not_idle_in_just_one(self):
        for yard in some_yards():
            told = crews(yard)
            self.assertIs(type(told), list)
            names = [name for crew in told for name in crew]
            self.assertEqual(sorted(names + idle(yard)), sorted(yard.names()))
            places = [[yard.names().index(name) for name in crew] for crew in told]
            for crew in places:
                self.assertEqual(crew, sorted(crew))
            self.assertEqual([crew[0] for crew in places], sorted(crew[0] for crew in places))

    def test_of_one_crew_where_neither_goes_without_the_other(self):
        for yard in some_yards():
            told, left = crews(yard), [name for name in yard.names() if seen(yard, name)[0] == "goes"]
            for one in left:
                for other in left:
                    together = any(one in crew and other in crew for crew in told)
                    free = "free" in (most(yard, one, other)[0], most(yard, other, one)[0])
                    self.assertIs(together, not free)

    def test_against_a_search_through_all_choices(self):
        for yard in some_yards():
            names = yard.names()
            if len(names) <= 7:
                self.assertEqual(crews(yard), searched_crews(searched_lone(yard.rows(), len(names)), names))


class OwnListsTest(unittest.TestCase):
    def asked(self, yard):
        return [most(yard, one, other) for one in yard.names() for other in yard.names()] + [crews(yard)]

    def test_told_lists_are_the_askers_own(self):
        for yard in (bakery(), ring(), two_mills()):
            before, yard_before = copy.deepcopy(self.asked(yard)), copy.deepcopy(all_told(yard))
            told = self.asked(yard)
            for one in told[:-1]:
                for part in one:
                    if isinstance(part, list):
                        part[0] = 99
                        part.append(98)
            told[-1][0].append("more")
            told[-1].reverse()
            self.assertEqual(self.asked(yard), before)
            self.assertEqual(all_told(yard), yard_before)

    def test_what_is_told_is_not_changed_by_later_questions(self):
        yard = two_mills()
        told = self.asked(yard)
        before = copy.deepcopy(told)
        for crew in self.asked(yard)[-1]:
            crew.clear()
        self.assertEqual(told, before)

    def test_way_and_weights_are_two_lists(self):
        kind, ratio, way, times, weights = most(bakery(), "mill", "oven")
        way.clear()
        self.assertEqual(len(weights), 4)


if __name__ == "__main__":
    unittest.main()
