"""Promises 6 to 9, and what promise 2 says of yards."""

import copy
import unittest

from modeyard.errors import NoAmount, NoGood, NoName, NoWay, TooMany, YardError
from modeyard.yards import Yard, is_name
from reckon import REFUSALS
from some_yards import bakery

TEN = ["a", "b", "c", "d", "e", "f", "g", "h", "i", "j"]
ELEVEN = TEN + ["k"]
THIRTY = 10 ** 30 - 1
WRONG_AMOUNTS = [0, -1, -THIRTY, True, False, None, "", "1", "corn"]
WRONG_NAMES = [
    "", "ninesigns", "Corn", "coRn", "corN", "1corn", "co1rn", "corn1", " corn", "co rn", "corn ", " ",
    "-corn", "co_rn", "corn~", "`a", "a{", "a@", "a[b",
]


def rest(name):
    return (name, [], [])


class NameTest(unittest.TestCase):
    def test_length(self):
        self.assertIs(is_name(""), False)
        self.assertIs(is_name("a"), True)
        self.assertIs(is_name("abcdefgh"), True)
        self.assertIs(is_name("abcdefghi"), False)

    def test_all_small_letters(self):
        for letter in "abcdefghijklmnopqrstuvwxyz":
            self.assertIs(is_name(letter), True)
            self.assertIs(is_name("a" + letter + "z"), True)

    def test_every_other_sign_at_first_middle_and_last_place(self):
        for code in range(ord(" "), ord("~") + 1):
            sign = chr(code)
            if sign in "abcdefghijklmnopqrstuvwxyz":
                continue
            for text in (sign, sign + "bc", "a" + sign + "c", "ab" + sign):
                self.assertIs(is_name(text), False, text)

    def test_signs_beyond_the_told_ones(self):
        for text in ("\n", "abc\n", "\u00e9", "\u0131a", "\u00aa", "a\u0661"):
            self.assertIs(is_name(text), False)

    def test_wrong_names_of_the_other_tests(self):
        for text in WRONG_NAMES:
            self.assertIs(is_name(text), False, text)


class RefusalCase(unittest.TestCase):
    def assert_refused(self, wanted, goods, works):
        """By the wanted class, by both bases, and by none of the other classes."""
        try:
            Yard(goods, works)
        except YardError as refusal:
            taken = [kind for kind in REFUSALS if isinstance(refusal, kind)]
            self.assertEqual(taken, [wanted], (goods, works))
            self.assertIsInstance(refusal, ValueError)
        else:
            self.fail(f"not refused: {goods!r}, {works!r}")


class MakingTest(RefusalCase):
    def test_ordinary(self):
        yard = bakery()
        self.assertEqual(yard.goods(), ["corn", "flour", "water", "bread"])
        self.assertEqual(yard.names(), ["bring", "mill", "well", "oven", "send"])
        self.assertEqual(yard.works()[1], ("mill", [("corn", 2)], [("flour", 3)]))

    def test_works_are_told_as_handed_in(self):
        works = [("b", [("y", 2), ("x", 1)], [("z", THIRTY)]), ("a", [], [("x", 1)]), rest("c")]
        yard = Yard(["z", "x", "y"], works)
        self.assertEqual(yard.works(), works)
        self.assertEqual(yard.goods(), ["z", "x", "y"])
        self.assertEqual(yard.names(), ["b", "a", "c"])
        for work in yard.works():
            self.assertIs(type(work), tuple)
            self.assertEqual([type(part) for part in work], [str, list, list])
            for part in work[1] + work[2]:
                self.assertIs(type(part), tuple)

    def test_empty_yard(self):
        yard = Yard([], [])
        self.assertEqual((yard.goods(), yard.works(), yard.names()), ([], [], []))

    def test_ten_are_not_too_many(self):
        yard = Yard(TEN, [rest(name) for name in TEN])
        self.assertEqual(yard.goods(), TEN)
        self.assertEqual(yard.names(), TEN)

    def test_eleven_are_too_many(self):
        self.assert_refused(TooMany, ELEVEN, [])
        self.assert_refused(TooMany, [], [rest(name) for name in ELEVEN])
        self.assert_refused(TooMany, ELEVEN, [rest(name) for name in ELEVEN])
        self.assert_refused(TooMany, ELEVEN, [rest(name) for name in TEN])
        self.assert_refused(TooMany, TEN, [rest(name) for name in ELEVEN])

    def test_wrong_names(self):
        for text in WRONG_NAMES:
            self.assert_refused(NoName, [text], [])
            self.assert_refused(NoName, ["good", text], [])
            self.assert_refused(NoName, [], [rest(text)])
            self.assert_refused(NoName, [], [rest("work"), rest(text)])

    def test_names_that_come_a_second_time(self):
        self.assert_refused(NoName, ["corn", "corn"], [])
        self.assert_refused(NoName, ["corn", "flour", "corn"], [])
        self.assert_refused(NoName, [], [rest("mill"), rest("mill")])
        self.assert_refused(NoName, [], [rest("mill"), rest("oven"), rest("mill")])

    def test_work_called_like_a_good(self):
        yard = Yard(["corn"], [("corn", [("corn", 1)], [])])
        self.assertEqual(yard.names(), yard.goods())

    def test_good_twice_in_one_list(self):
        for parts in ([("a", 1), ("a", 1)], [("a", 1), ("b", 1), ("a", 2)]):
            self.assert_refused(NoGood, ["a", "b"], [("work", parts, [])])
            self.assert_refused(NoGood, ["a", "b"], [("work", [], parts)])

    def test_good_once_in_each_list(self):
        yard = Yard(["a", "b"], [("work", [("a", 1), ("b", 1)], [("b", 2), ("a", 3)])])
        self.assertEqual(yard.change(0), [2, 1])

    def test_good_in_many_works(self):
        yard = Yard(["a"], [("one", [("a", 1)], []), ("two", [("a", 1)], [])])
        self.assertEqual(yard.rows(), [[-1, -1]])

    def test_good_that_the_yard_does_not_have(self):
        for text in ["b", "", "A", "work", "a "]:
            self.assert_refused(NoGood, ["a"], [("work", [(text, 1)], [])])
            self.assert_refused(NoGood, ["a"], [("work", [], [(text, 1)])])
            self.assert_refused(NoGood, ["a"], [("work", [("a", 1)], [("a", 1), (text, 1)])])
        self.assert_refused(NoGood, [], [("work", [("a", 1)], [])])

    def test_wrong_amounts(self):
        for amount in WRONG_AMOUNTS:
            self.assert_refused(NoAmount, ["a"], [("work", [("a", amount)], [])])
            self.assert_refused(NoAmount, ["a"], [("work", [], [("a", amount)])])
            self.assert_refused(NoAmount, ["a", "b"], [("work", [("b", 1), ("a", amount)], [])])

    def test_amounts_at_the_edges(self):
        # What lies beyond thirty figures is not promised, but nothing is refused for it.
        for amount in (1, 2, THIRTY, THIRTY + 1):
            yard = Yard(["a"], [("work", [], [("a", amount)])])
            self.assertEqual(yard.change(0), [amount])

    def test_good_and_amount_both_wrong(self):
        for amount in WRONG_AMOUNTS:
            self.assert_refused(NoGood, ["a"], [("work", [("b", amount)], [])])
            self.assert_refused(NoGood, ["a"], [("work", [], [("b", amount)])])
            self.assert_refused(NoGood, ["a"], [("work", [("a", 1), ("a", amount)], [])])


class OrderTest(RefusalCase):
    """Two faults at once: the first that is due is told."""

    def test_too_many_ahead_of_all(self):
        works = [rest(name) for name in ELEVEN]
        self.assert_refused(TooMany, ["A"] + TEN, [])
        self.assert_refused(TooMany, ["a", "a"] + TEN[1:], [])
        self.assert_refused(TooMany, ["A"], works)
        self.assert_refused(TooMany, ELEVEN, [rest("A")])
        self.assert_refused(TooMany, [], [rest("A")] + works[1:])
        self.assert_refused(TooMany, [], [rest("b")] + works[1:])
        self.assert_refused(TooMany, ["a"], [("a", [("x", 1)], [])] + works[1:])
        self.assert_refused(TooMany, ["a"], [("a", [], [("a", 0)])] + works[1:])

    def test_goods_ahead_of_works(self):
        for goods in (["A"], ["a", "a"], ["a", "b", "C"]):
            self.assert_refused(NoName, goods, [("work", [("x", 1)], [])])
            self.assert_refused(NoName, goods, [("work", [(goods[0], 0)], [])])

    def test_name_of_a_work_ahead_of_its_parts(self):
        for part in (("x", 1), ("a", 0)):
            self.assert_refused(NoName, ["a"], [("W", [part], [])])
            self.assert_refused(NoName, ["a"], [("W", [], [part])])
            self.assert_refused(NoName, ["a"], [rest("w"), ("w", [part], [])])

    def test_work_by_work(self):
        wrong_name, wrong_good, wrong_amount = rest("W"), ("v", [], [("x", 1)]), ("u", [("a", 0)], [])
        self.assert_refused(NoName, ["a"], [wrong_name, wrong_good])
        self.assert_refused(NoGood, ["a"], [wrong_good, wrong_name])
        self.assert_refused(NoName, ["a"], [wrong_name, wrong_amount])
        self.assert_refused(NoAmount, ["a"], [wrong_amount, wrong_name])
        self.assert_refused(NoGood, ["a"], [wrong_good, wrong_amount])
        self.assert_refused(NoAmount, ["a"], [wrong_amount, wrong_good])
        self.assert_refused(NoGood, ["a"], [wrong_good, rest("v")])
        self.assert_refused(NoAmount, ["a"], [wrong_amount, rest("u")])

    def test_uses_ahead_of_makes(self):
        self.assert_refused(NoGood, ["a"], [("w", [("x", 1)], [("a", 0)])])
        self.assert_refused(NoAmount, ["a"], [("w", [("a", 0)], [("x", 1)])])
        self.assert_refused(NoGood, ["a"], [("w", [("a", 1), ("a", 1)], [("a", None)])])
        self.assert_refused(NoAmount, ["a"], [("w", [("a", True)], [("a", 1), ("a", 1)])])

    def test_one_by_one_within_a_list(self):
        for first, second, wanted in (
            (("x", 1), ("a", 0), NoGood),
            (("a", 0), ("x", 1), NoAmount),
            (("a", 0), ("a", 1), NoAmount),
            (("a", "1"), ("a", "1"), NoAmount),
        ):
            self.assert_refused(wanted, ["a"], [("w", [first, second], [])])
            self.assert_refused(wanted, ["a"], [("w", [], [first, second])])


class ChangeTest(unittest.TestCase):
    def test_ordinary(self):
        yard = bakery()
        self.assertEqual(yard.change(0), [1, 0, 0, 0])
        self.assertEqual(yard.change(1), [-2, 3, 0, 0])
        self.assertEqual(yard.change(3), [0, -3, -1, 2])
        self.assertEqual(yard.change(4), [0, 0, 0, -1])

    def test_rows(self):
        self.assertEqual(
            bakery().rows(),
            [[1, -2, 0, 0, 0], [0, 3, 0, -3, 0], [0, 0, 5, -1, 0], [0, 0, 0, 2, -1]],
        )

    def test_good_both_used_and_made(self):
        yard = Yard(
            ["a"],
            [
                ("more", [("a", 2)], [("a", 5)]),
                ("less", [("a", 5)], [("a", 2)]),
                ("same", [("a", 4)], [("a", 4)]),
            ],
        )
        self.assertEqual([yard.change(at) for at in range(3)], [[3], [-3], [0]])
        self.assertEqual(yard.rows(), [[3, -3, 0]])

    def test_empty_lists(self):
        yard = Yard(["a", "b"], [rest("rest"), ("in", [], [("b", 2)]), ("out", [("a", 3)], [])])
        self.assertEqual(yard.change(0), [0, 0])
        self.assertEqual(yard.change(1), [0, 2])
        self.assertEqual(yard.change(2), [-3, 0])
        self.assertEqual(yard.rows(), [[0, 0, -3], [0, 2, 0]])

    def test_another_order_than_the_yards(self):
        yard = Yard(["c", "a", "b"], [("w", [("b", 1), ("a", 2)], [("b", 7), ("c", 4)])])
        self.assertEqual(yard.change(0), [4, -2, 6])
        self.assertEqual(yard.rows(), [[4], [-2], [6]])

    def test_without_works(self):
        self.assertEqual(Yard(["a", "b"], []).rows(), [[], []])

    def test_without_goods(self):
        yard = Yard([], [rest("v"), rest("w")])
        self.assertEqual(yard.rows(), [])
        self.assertEqual(yard.change(1), [])

    def test_thirty_figures(self):
        yard = Yard(["a"], [("w", [("a", THIRTY)], [("a", THIRTY - 1)])])
        self.assertEqual(yard.change(0), [-1])


class WayTest(unittest.TestCase):
    def assert_no_way(self, yard, way):
        for ask in (yard.leaves, yard.balanced):
            with self.assertRaises(NoWay) as taken:
                ask(way)
            self.assertEqual([kind for kind in REFUSALS if isinstance(taken.exception, kind)], [NoWay])
            self.assertIsInstance(taken.exception, YardError)
            self.assertIsInstance(taken.exception, ValueError)

    def test_no_work_goes(self):
        self.assertEqual(bakery().leaves([0, 0, 0, 0, 0]), [0, 0, 0, 0])
        self.assertIs(bakery().balanced([0, 0, 0, 0, 0]), True)

    def test_balanced(self):
        self.assertEqual(bakery().leaves([10, 5, 1, 5, 10]), [0, 0, 0, 0])
        self.assertIs(bakery().balanced([10, 5, 1, 5, 10]), True)
        self.assertIs(bakery().balanced([20, 10, 2, 10, 20]), True)

    def test_not_balanced(self):
        self.assertEqual(bakery().leaves([1, 2, 3, 4, 5]), [-3, -6, 11, 3])
        for way in ([1, 2, 3, 4, 5], [1, 0, 0, 0, 0], [0, 0, 0, 0, 1], [10, 5, 1, 5, 9], [11, 5, 1, 5, 10]):
            self.assertIs(bakery().balanced(way), False)

    def test_what_is_left_of_two_goods_does_not_make_up(self):
        yard = Yard(["a", "b"], [("w", [("a", 1)], [("b", 1)])])
        self.assertEqual(yard.leaves([2]), [-2, 2])
        self.assertIs(yard.balanced([2]), False)

    def test_wrong_length(self):
        for way in ([], [10, 5, 1, 5], [10, 5, 1, 5, 10, 0], [0, 0, 0, 0], [0, 0, 0, 0, 0, 0]):
            self.assert_no_way(bakery(), way)

    def test_below_nought(self):
        for at in range(5):
            way = [10, 5, 1, 5, 10]
            way[at] = -1
            self.assert_no_way(bakery(), way)
        self.assert_no_way(bakery(), [-1, 0, 0, 0, 0])
        self.assert_no_way(bakery(), [0, 0, 0, 0, -THIRTY])
        self.assert_no_way(bakery(), [-1, 0, 0, 0])

    def test_below_nought_where_nothing_would_be_left(self):
        yard = Yard(["a"], [("up", [], [("a", 1)]), ("rest", [], [])])
        self.assert_no_way(yard, [0, -1])

    def test_without_works(self):
        yard = Yard(["a", "b"], [])
        self.assertEqual(yard.leaves([]), [0, 0])
        self.assertIs(yard.balanced([]), True)
        self.assert_no_way(yard, [0])

    def test_without_goods(self):
        yard = Yard([], [rest("v"), rest("w")])
        self.assertEqual(yard.leaves([3, 4]), [])
        self.assertIs(yard.balanced([3, 4]), True)
        self.assert_no_way(yard, [3])
        self.assert_no_way(yard, [3, -4])

    def test_thirty_figures(self):
        yard = Yard(["a"], [("in", [], [("a", THIRTY)]), ("out", [("a", THIRTY - 1)], [])])
        self.assertEqual(yard.leaves([THIRTY, THIRTY]), [THIRTY])
        self.assertIs(yard.balanced([THIRTY - 1, THIRTY]), True)
        self.assertIs(yard.balanced([THIRTY, THIRTY]), False)

    def test_a_yard_that_has_refused_answers_as_before(self):
        yard, fresh = bakery(), bakery()
        for way in ([], [-1, 0, 0, 0, 0], [0, 0, 0, 0, 0, 0]):
            self.assert_no_way(yard, way)
        self.assertEqual(all_told(yard), all_told(fresh))


def all_told(yard):
    """A copy of what a yard of five works answers, the lists within it of their own."""
    return copy.deepcopy([
        yard.goods(), yard.works(), yard.names(), [yard.change(at) for at in range(5)], yard.rows(),
        yard.leaves([1, 2, 3, 4, 5]), yard.balanced([10, 5, 1, 5, 10]), yard.balanced([1, 2, 3, 4, 5]),
    ])


class OwnListsTest(unittest.TestCase):
    def setUp(self):
        self.goods = bakery().goods()
        self.handed = bakery().works()

    def test_handed_lists_stay_as_they_were(self):
        goods, works = copy.deepcopy(self.goods), copy.deepcopy(self.handed)
        all_told(Yard(goods, works))
        self.assertEqual(goods, self.goods)
        self.assertEqual(works, self.handed)

    def test_handed_lists_stay_as_they_were_where_refused(self):
        goods, works = ["a", "b"], [("w", [("b", 1), ("a", 0)], [("x", 1)])]
        with self.assertRaises(NoAmount):
            Yard(goods, works)
        self.assertEqual(goods, ["a", "b"])
        self.assertEqual(works, [("w", [("b", 1), ("a", 0)], [("x", 1)])])

    def test_handed_way_stays_as_it_was(self):
        way = [1, 2, 3, 4, 5]
        bakery().leaves(way)
        bakery().balanced(way)
        self.assertEqual(way, [1, 2, 3, 4, 5])

    def test_lists_changed_behind_the_call(self):
        yard = Yard(self.goods, self.handed)
        before = all_told(yard)
        for work in self.handed:
            work[1].append(("corn", 9))
            work[2][:] = []
        self.handed.reverse()
        self.handed.pop()
        self.goods[0] = "other"
        self.goods.append("more")
        self.assertEqual(all_told(yard), before)

    def test_told_lists_changed(self):
        yard = bakery()
        before = all_told(yard)
        for told in (yard.goods(), yard.names(), yard.works(), yard.rows(), yard.change(0),
                     yard.change(4), yard.leaves([1, 2, 3, 4, 5])):
            told.reverse()
            told.append("more")
            told[0] = "other"
        self.assertEqual(all_told(yard), before)

    def test_lists_within_told_lists_changed(self):
        yard = bakery()
        before = all_told(yard)
        for work in yard.works():
            work[1].append(("corn", 9))
            work[2].clear()
        for row in yard.rows():
            row[0] = 77
            row.append(78)
        self.assertEqual(all_told(yard), before)

    def test_told_lists_do_not_change_one_another(self):
        yard = bakery()
        first, second = yard.works(), yard.works()
        first[0][2].append(("corn", 9))
        self.assertEqual(second, bakery().works())
        rows, others = yard.rows(), yard.rows()
        rows[0].append(9)
        self.assertEqual(others, bakery().rows())

    def test_yards_with_the_same_lists_are_apart(self):
        one, other = Yard(self.goods, self.handed), Yard(self.goods, self.handed)
        one.works()[0][2].append(("corn", 9))
        self.assertEqual(all_told(one), all_told(other))


if __name__ == "__main__":
    unittest.main()
