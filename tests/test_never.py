"""Promises 20 and 21, and what promise 2 says of what they tell."""

import copy
import unittest

from modeyard.errors import NoWork
from modeyard.never import idle, seen
from modeyard.ways import ways
from modeyard.yards import Yard
from reckon import assert_refused, searched_lone
from shown import assert_seen, searched_seen
from some_yards import NAMES, THIRTY, all_told, bakery, ring, some_yards


def stuck():
    """What is brought is milled, and the flour goes nowhere; one work goes by itself, two go for one another."""
    return Yard(
        ["corn", "flour", "ice", "water"],
        [
            ("mill", [("corn", 2)], [("flour", 3)]),
            ("melt", [("ice", 1)], [("water", 1)]),
            ("bring", [], [("corn", 1)]),
            ("rest", [("corn", 5)], [("corn", 5)]),
            ("freeze", [("water", 2)], [("ice", 2)]),
            ("add", [("flour", 1)], [("flour", 4)]),
        ],
    )


def round_of_ten(amount):
    return [(name, [(name, amount)], [(NAMES[(at + 1) % 10], amount)]) for at, name in enumerate(NAMES)]


class Case(unittest.TestCase):
    def assert_all(self, yard, kinds):
        self.assertEqual([seen(yard, name)[0] for name in yard.names()], kinds)
        for name in yard.names():
            assert_seen(self, yard, name, seen(yard, name))


class SeenTest(Case):
    def test_works_that_go(self):
        for name in ["bring", "mill", "well", "oven", "send"]:
            self.assertEqual(seen(bakery(), name), ("goes", [10, 5, 1, 5, 10]))

    def test_told_way_is_one_in_which_the_work_goes(self):
        self.assertEqual(seen(ring(), "melt"), ("goes", [2, 0, 2, 1, 0, 0]))
        self.assertEqual(seen(ring(), "thaw"), ("goes", [0, 2, 2, 1, 0, 0]))
        self.assertEqual(seen(ring(), "stir"), ("goes", [0, 0, 0, 0, 1, 0]))
        self.assertIn(seen(ring(), "boil")[1], [[2, 0, 2, 1, 0, 0], [0, 2, 2, 1, 0, 0]])

    def test_works_that_never_go(self):
        self.assert_all(stuck(), ["never", "goes", "never", "goes", "goes", "never"])
        self.assert_all(ring(), ["goes"] * 5 + ["never"])

    def test_weights_of_either_sign(self):
        # Each work alone needs another sign, and each weight that is not 0 is as good as any multiple.
        self.assertGreater(seen(Yard(["a"], [("make", [], [("a", 7)])]), "make")[1][0], 0)
        self.assertLess(seen(Yard(["a"], [("use", [("a", 7)], [])]), "use")[1][0], 0)
        yard = Yard(["a", "b"], [("up", [("a", 2)], [("b", 3)]), ("down", [("b", 1)], [("a", 5)])])
        self.assert_all(yard, ["never", "never"])
        yard = Yard(["a", "b"], [("up", [("a", 2)], [("b", 3)]), ("down", [("b", 5)], [("a", 1)])])
        self.assert_all(yard, ["never", "never"])

    def test_works_that_change_nothing(self):
        yard = Yard(["a"], [("rest", [], []), ("same", [("a", 4)], [("a", 4)]), ("more", [], [("a", 1)])])
        self.assertEqual(seen(yard, "rest"), ("goes", [1, 0, 0]))
        self.assertEqual(seen(yard, "same"), ("goes", [0, 1, 0]))
        self.assert_all(yard, ["goes", "goes", "never"])

    def test_works_alike(self):
        bring, send = ([], [("a", 2)]), ([("a", 3)], [])
        self.assert_all(Yard(["a"], [("b",) + bring, ("c",) + bring, ("s",) + send]), ["goes"] * 3)
        self.assert_all(Yard(["a"], [("b",) + bring, ("c",) + bring, ("d",) + bring]), ["never"] * 3)

    def test_one_work(self):
        self.assertEqual(seen(Yard([], [("w", [], [])]), "w"), ("goes", [1]))
        self.assertEqual(seen(Yard(["a"], [("w", [("a", 3)], [("a", 3)])]), "w"), ("goes", [1]))
        self.assert_all(Yard(["a", "b"], [("w", [("a", 3)], [("b", 3)])]), ["never"])
        self.assert_all(Yard(["a", "b"], [("w", [], [("b", 3)])]), ["never"])

    def test_without_goods(self):
        self.assert_all(Yard([], [("v", [], []), ("w", [], [])]), ["goes", "goes"])

    def test_ten_goods_and_ten_works(self):
        self.assert_all(Yard(NAMES, round_of_ten(3)), ["goes"] * 10)
        works = round_of_ten(3)
        works[4] = ("e", [("e", 3)], [("f", 4)])
        self.assert_all(Yard(NAMES, works), ["never"] * 10)
        works[4] = ("e", [], [("f", 4)])
        self.assert_all(Yard(NAMES, works), ["never"] * 10)
        works[7] = ("h", [("h", 1)], [])
        self.assert_all(Yard(NAMES, works), ["never"] * 4 + ["goes"] * 4 + ["never"] * 2)

    def test_thirty_figures(self):
        yard = Yard(["a"], [("in", [], [("a", THIRTY)]), ("out", [("a", THIRTY - 1)], [])])
        self.assertEqual(seen(yard, "in"), ("goes", [THIRTY - 1, THIRTY]))
        # Hardly more comes of the round than goes into it.
        works = [("to", [("a", THIRTY)], [("b", THIRTY - 1)]), ("fro", [("b", THIRTY - 1)], [("a", THIRTY)])]
        self.assert_all(Yard(["a", "b"], works), ["goes", "goes"])
        works[1] = ("fro", [("b", THIRTY - 2)], [("a", THIRTY)])
        self.assert_all(Yard(["a", "b"], works), ["never", "never"])
        works = round_of_ten(THIRTY)
        works[4] = ("e", [("e", THIRTY)], [("f", THIRTY - 1)])
        self.assert_all(Yard(NAMES, works), ["never"] * 10)

    def test_many_yards(self):
        kinds = []
        for yard in some_yards():
            for name in yard.names():
                told = seen(yard, name)
                assert_seen(self, yard, name, told)
                kinds.append(told[0])
                if told[0] == "goes":
                    self.assertIn(told[1], ways(yard))
        self.assertGreater(kinds.count("goes"), 200)
        self.assertGreater(kinds.count("never"), 200)

    def test_against_a_search_through_all_choices(self):
        for yard in some_yards():
            names = yard.names()
            if len(names) <= 7:
                found = searched_lone(yard.rows(), len(names))
                for at, name in enumerate(names):
                    self.assertEqual(seen(yard, name)[0], searched_seen(found, at))


class NoWorkTest(unittest.TestCase):
    def test_no_work_is_called_so(self):
        for name in ["", "baker", "mil", "mills", "Mill", " mill", "mill ", "mill: >", "'"]:
            assert_refused(self, NoWork, seen, bakery(), name)
            with self.assertRaises(NoWork) as taken:
                seen(bakery(), name)
            self.assertEqual(taken.exception.name, name)

    def test_a_good_is_called_so(self):
        for name in ["corn", "bread"]:
            with self.assertRaises(NoWork) as taken:
                seen(bakery(), name)
            self.assertEqual(taken.exception.name, name)

    def test_a_work_called_like_a_good(self):
        yard = Yard(["a", "b"], [("b", [], [("a", 1)]), ("c", [("a", 1)], [])])
        self.assertEqual(seen(yard, "b"), ("goes", [1, 1]))
        assert_refused(self, NoWork, seen, yard, "a")

    def test_yard_without_works(self):
        assert_refused(self, NoWork, seen, Yard(["a"], []), "a")
        assert_refused(self, NoWork, seen, Yard([], []), "a")


class IdleTest(unittest.TestCase):
    def test_none(self):
        self.assertEqual(idle(bakery()), [])
        self.assertEqual(idle(Yard(NAMES, round_of_ten(2))), [])

    def test_some_in_the_yards_order(self):
        self.assertEqual(idle(ring()), ["sweep"])
        self.assertEqual(idle(stuck()), ["mill", "bring", "add"])
        works = list(reversed(stuck().works()))
        self.assertEqual(idle(Yard(stuck().goods(), works)), ["add", "bring", "mill"])

    def test_all(self):
        self.assertEqual(idle(Yard(["a"], [("y", [], [("a", 1)]), ("x", [], [("a", 2)])])), ["y", "x"])
        works = round_of_ten(2)
        works[9] = ("j", [("j", 2)], [("a", 1)])
        self.assertEqual(idle(Yard(NAMES, works)), NAMES)

    def test_without_works_and_without_goods(self):
        self.assertEqual(idle(Yard([], [])), [])
        self.assertEqual(idle(Yard(["a", "b"], [])), [])
        self.assertEqual(idle(Yard([], [("v", [], []), ("w", [], [])])), [])

    def test_those_that_are_seen_never_to_go(self):
        for yard in some_yards():
            told = idle(yard)
            self.assertIs(type(told), list)
            self.assertEqual(told, [name for name in yard.names() if seen(yard, name)[0] == "never"])


class OwnListsTest(unittest.TestCase):
    def asked(self, yard):
        return [seen(yard, name) for name in yard.names()] + [idle(yard)]

    def test_told_lists_are_the_askers_own(self):
        for yard in (bakery(), ring(), stuck()):
            before, yard_before = copy.deepcopy(self.asked(yard)), copy.deepcopy(all_told(yard))
            told = self.asked(yard)
            for kind, numbers in told[:-1]:
                numbers[0] = 99
                numbers.append(98)
            told[-1].append("more")
            self.assertEqual(self.asked(yard), before)
            self.assertEqual(all_told(yard), yard_before)

    def test_what_is_told_is_not_changed_by_later_questions(self):
        yard = stuck()
        told = self.asked(yard)
        before = copy.deepcopy(told)
        for one in self.asked(yard)[:-1]:
            one[1].clear()
        self.assertEqual(told, before)

    def test_works_changed_behind_the_making(self):
        goods, works = stuck().goods(), stuck().works()
        yard = Yard(goods, works)
        before = copy.deepcopy(self.asked(yard))
        works[0][2].clear()
        works[5][1].append(("corn", 1))
        works.pop()
        goods.reverse()
        self.assertEqual(self.asked(yard), before)


if __name__ == "__main__":
    unittest.main()
