"""Promises 1 to 3 over the whole program, and the interface: its names and arguments."""

import copy
import importlib
import inspect
import itertools
import unittest
from fractions import Fraction

from modeyard import clerk, crews, errors, lone, never, ratios, sums, texts, yards
from modeyard import ways as all_ways
from modeyard.crews import most
from modeyard.never import seen
from modeyard.sums import kept, kept_shares, pools, weighed
from modeyard.ways import parted, ways
from modeyard.yards import Yard
from reckon import Numbers, assert_refused, assert_shares, dot, rank, searched_lone, together
from shown import assert_most, assert_seen, changes_of, searched_crews, searched_most, searched_seen
from some_yards import bakery, drawn_yard, ring

FUNCTIONS = {
    "ratios": {
        "measure": ["numbers"], "lowest": ["numbers"], "ratio": ["top", "bottom"], "plus": ["one", "other"],
        "minus": ["one", "other"], "times": ["one", "other"], "over": ["one", "other"], "under": ["one", "other"],
    },
    "yards": {"is_name": ["text"]},
    "lines": {"plain": ["rows", "many"], "still": ["rows", "many"], "made_of": ["rows", "goal"]},
    "lone": {"lone": ["rows", "many"], "shares": ["rows", "many", "fit"]},
    "ways": {"ways": ["yard"], "parted": ["yard", "way"]},
    "sums": {
        "weighed": ["yard", "weights", "amounts"], "is_kept": ["yard", "weights"], "kept": ["yard"],
        "kept_shares": ["yard", "weights"], "pools": ["yard"], "pool_shares": ["yard", "weights"],
    },
    "never": {"seen": ["yard", "name"], "idle": ["yard"]},
    "crews": {"most": ["yard", "one", "other"], "crews": ["yard"]},
    "texts": {
        "show_work": ["work"], "read_work": ["text"], "show_list": ["numbers", "names"], "show_ratio": ["one"],
    },
}
METHODS = {
    ("yards", "Yard"): {
        "__init__": ["goods", "works"], "goods": [], "works": [], "names": [], "change": ["at"], "rows": [],
        "leaves": ["way"], "balanced": ["way"],
    },
    ("clerk", "Clerk"): {"__init__": [], "say": ["row"]},
}


def small_yards():
    drawn = Numbers(61)
    told = [bakery(), ring()]
    for _ in range(120):
        told.append(drawn_yard(drawn, drawn.number(0, 4), drawn.number(0, 5), 2))
    # With few goods many works go; some of these are idle beside others that go.
    told += [drawn_yard(drawn, 2, 5, 2) for _ in range(60)]
    return told


def balanced_ways(yard, high):
    """All balanced ways in which no work goes oftener than told, by counting through all of them."""
    changes, goods = changes_of(yard), range(len(yard.goods()))
    told = []
    for way in itertools.product(range(high + 1), repeat=len(changes)):
        if all(dot(way, [change[at] for change in changes]) == 0 for at in goods):
            told.append(list(way))
    return told


class InterfaceTest(unittest.TestCase):
    def test_functions(self):
        for module, functions in FUNCTIONS.items():
            for name, arguments in functions.items():
                told = getattr(importlib.import_module("modeyard." + module), name)
                self.assertEqual(list(inspect.signature(told).parameters), arguments, (module, name))

    def test_classes(self):
        for (module, owner), methods in METHODS.items():
            for name, arguments in methods.items():
                told = getattr(getattr(importlib.import_module("modeyard." + module), owner), name)
                self.assertEqual(list(inspect.signature(told).parameters), ["self"] + arguments, (owner, name))


class WholePromiseTest(unittest.TestCase):
    def test_lone_ways_and_shares(self):
        for yard in small_yards():
            many = len(yard.names())
            found = searched_lone(yard.rows(), many)
            self.assertEqual(ways(yard), found)
            for way in balanced_ways(yard, 2):
                assert_shares(self, parted(yard, way), way, found)

    def test_kept_sums(self):
        for yard in small_yards():
            rows, changes, many = kept(yard), changes_of(yard), len(yard.goods())
            self.assertTrue(all(dot(row, change) == 0 for row in rows for change in changes))
            self.assertEqual(rank(rows, many), many - rank(changes, many))
            for weights in itertools.product([-1, 0, 2], repeat=many):
                if all(dot(weights, change) == 0 for change in changes):
                    often = [Fraction(*share) for share in kept_shares(yard, list(weights))]
                    self.assertEqual(together(rows, often, many), list(weights))

    def test_each_work(self):
        for yard in small_yards():
            names = yard.names()
            found, counted = searched_lone(yard.rows(), len(names)), balanced_ways(yard, 2)
            for at, name in enumerate(names):
                told = seen(yard, name)
                assert_seen(self, yard, name, told)
                self.assertEqual(told[0], searched_seen(found, at))
                self.assertEqual(name in never.idle(yard), told[0] == "never")
                if told[0] == "never":
                    self.assertEqual([way for way in counted if way[at] > 0], [])
                    self.assertGreater(weighed(yard, told[1], yard.change(at)), 0)

    def test_each_two_works(self):
        for yard in small_yards():
            names = yard.names()
            found, counted = searched_lone(yard.rows(), len(names)), balanced_ways(yard, 2)
            for first, one in enumerate(names):
                for second, other in enumerate(names):
                    told = most(yard, one, other)
                    assert_most(self, yard, one, other, told)
                    kind, ratio = searched_most(found, first, second)
                    self.assertEqual(told[0], kind)
                    if kind == "most":
                        self.assertEqual(told[1], ratio)
                        for way in counted:
                            self.assertLessEqual(ratio[1] * way[first], ratio[0] * way[second])
                    if kind == "never":
                        self.assertEqual([way for way in counted if way[first] > 0 or way[second] > 0], [])

    def test_crews(self):
        for yard in small_yards():
            names = yard.names()
            told = crews.crews(yard)
            self.assertEqual(told, searched_crews(searched_lone(yard.rows(), len(names)), names))
            for way in balanced_ways(yard, 2):
                for crew in told:
                    self.assertEqual(len({way[names.index(name)] > 0 for name in crew}), 1)

    def test_the_small_yards_are_of_all_kinds(self):
        kinds = [most(yard, one, other)[0] for yard in small_yards() for one in yard.names() for other in yard.names()]
        for kind in ("free", "never", "most"):
            self.assertGreater(kinds.count(kind), 200)


class RefusalTest(unittest.TestCase):
    """Promise 2: each refusal, wherever it is told, is taken by its own class and the bases alone."""

    def test_each(self):
        mill = Yard(["a"], [("in", [], [("a", 1)]), ("out", [("a", 1)], [])])
        row = clerk.Clerk().say
        for kind, ask, handed in [
            (errors.NoRatio, ratios.ratio, (1, 0)),
            (errors.NoRatio, ratios.over, ((1, 2), (0, 1))),
            (errors.TooMany, yards.Yard, (list("abcdefghijk"), [])),
            (errors.TooMany, row, ("work w: > 1 " + " 1 ".join("abcdefghijk"),)),
            (errors.NoName, yards.Yard, (["a", "a"], [])),
            (errors.NoGood, yards.Yard, ([], [("w", [("a", 1)], [])])),
            (errors.NoGood, texts.read_work, ("w: 1 a 1 a >",)),
            (errors.NoGood, row, ("work w: 1 a 1 a >",)),
            (errors.NoAmount, yards.Yard, (["a"], [("w", [("a", 0)], [])])),
            (errors.NoWay, mill.leaves, ([1],)),
            (errors.NoWay, mill.balanced, ([1, -1],)),
            (errors.NoWay, all_ways.parted, (mill, [1, 1, 1])),
            (errors.NoFit, lone.shares, ([[1, -1]], 2, [1, 2])),
            (errors.NoBalance, all_ways.parted, (mill, [1, 2])),
            (errors.NoBalance, sums.kept_shares, (mill, [1])),
            (errors.NoBalance, sums.pool_shares, (mill, [1])),
            (errors.NoWeights, sums.weighed, (mill, [], [1])),
            (errors.NoWeights, sums.is_kept, (mill, [1, 1])),
            (errors.NoWork, never.seen, (mill, "a")),
            (errors.NoWork, crews.most, (mill, "in", "a")),
            (errors.NoWork, row, ("drop w",)),
            (errors.NoText, texts.read_work, ("",)),
            (errors.NoText, row, ("work ",)),
            (errors.NoRow, row, ("",)),
        ]:
            assert_refused(self, kind, ask, *handed)


class OwnListsTest(unittest.TestCase):
    """Promise 2: what one function tells may be handed to another one, and changed behind it."""

    def asked(self, yard):
        told = [ways(yard), kept(yard), pools(yard), never.idle(yard), crews.crews(yard)]
        told += [seen(yard, name) for name in yard.names()]
        return told + [most(yard, one, other) for one in yard.names() for other in yard.names()]

    def spoil(self, told):
        for part in list(told):
            if isinstance(part, (list, tuple)):
                self.spoil(part)
        if isinstance(told, list):
            told.reverse()
            told.append(7)

    def test_spoiled_answers_change_no_later_one(self):
        for yard in small_yards()[:40]:
            before = copy.deepcopy(self.asked(yard))
            kept_back = self.asked(yard)
            self.spoil(self.asked(yard))
            self.assertEqual(self.asked(yard), before)
            self.assertEqual(kept_back, before)

    def test_spoiled_lists_of_goods_and_works_change_no_answer(self):
        for yard in small_yards()[:40]:
            goods, works = yard.goods(), yard.works()
            other = Yard(goods, works)
            before = copy.deepcopy(self.asked(other))
            self.spoil(works)
            self.spoil(goods)
            self.assertEqual(self.asked(other), before)

    def test_handed_lists_stay_as_they_were(self):
        for yard in small_yards()[:40]:
            for one in yard.names():
                told = seen(yard, one)
                before = copy.deepcopy(told)
                if told[0] == "goes":
                    parted(yard, told[1])
                else:
                    weighed(yard, told[1], yard.change(0))
                self.assertEqual(told, before)


if __name__ == "__main__":
    unittest.main()
