"""Promises 24 and 25, and what promise 2 says of texts."""

import copy
import unittest
from math import gcd

from modeyard.errors import NoGood, NoText
from modeyard.ratios import plus, times
from modeyard.texts import read_work, show_list, show_ratio, show_work
from modeyard.yards import Yard
from reckon import Numbers, assert_refused
from some_yards import NAMES, THIRTY, some_yards

WRITTEN = {
    "mill: 2 corn 1 water > 3 flour": ("mill", [("corn", 2), ("water", 1)], [("flour", 3)]),
    "bring: > 1 corn": ("bring", [], [("corn", 1)]),
    "send: 1 flour >": ("send", [("flour", 1)], []),
    "rest: >": ("rest", [], []),
    "grow: 1 corn > 9 corn": ("grow", [("corn", 1)], [("corn", 9)]),
    "corn: 1 corn > 9 corn": ("corn", [("corn", 1)], [("corn", 9)]),
    "w: 10 z 20 a > 100 m 7 b 1 a": ("w", [("z", 10), ("a", 20)], [("m", 100), ("b", 7), ("a", 1)]),
    "abcdefgh: 1 stuvwxyz >": ("abcdefgh", [("stuvwxyz", 1)], []),
    "w: " + "9" * 30 + " a > 1" + "0" * 29 + " b": ("w", [("a", THIRTY)], [("b", 10 ** 29)]),
    "work: > 1 work": ("work", [], [("work", 1)]),
}

# None of these is written as promise 24 tells.
NOT_WRITTEN = [
    "", " ", ":", ">", ": >", " : >", "mill", "mill:", "mill >", "mill :", "mill : >", "mill:>", "mill: >>", "mill;  >",
    # Blanks: two, ahead, behind, none.
    "mill:  >", "mill: > ", " mill: >", "mill: 2  corn >", "mill: 2 corn  >", "mill: >  2 corn", "mill: > 2 corn ",
    "mill: 2corn >", "mill:2 corn >", "mill: 2 corn>", "mill: >2 corn", "mill: 2 corn> 3 flour",
    "mill: 2 corn >3 flour", "mill: 2 corn 1water > 3 flour", "mill  : >", "mill: > 2  corn", "mill:  2 corn >",
    # The colon and the sign between.
    "mill 2 corn > 3 flour", "mill:: >", "mi:ll: >", "mill: 2 corn 3 flour", "mill: > >", "mill: > 1 corn >",
    "mill: > > 1 corn", "mill: 1 corn > 2 flour > 3 bread", "mill: : >", "mill: 2 corn: >", "mill: >:", "mill: <",
    "mill: 2 > corn", "mill: 2 corn => 3 flour", "mill: 2 corn -> 3 flour", ">: mill", "mill> :",
    # Amounts.
    "mill: 0 corn >", "mill: 00 corn >", "mill: 02 corn >", "mill: > 0 corn", "mill: > 01 corn", "mill: -2 corn >",
    "mill: +2 corn >", "mill: 2.0 corn >", "mill: 2. corn >", "mill: 1/2 corn >", "mill: 1_0 corn >",
    "mill: 1e3 corn >", "mill: two corn >", "mill: corn >", "mill: 2 >", "mill: > 2", "mill: > corn", "mill: 2 3 >",
    "mill: 2 3 corn >",
    "mill: 2 corn 3 >", "mill: 2 corn flour >", "mill: corn 2 >", "mill: > 2 corn 3", "mill: 0x2 corn >",
    "mill: " + "1" * 31 + " corn >", "mill: > " + "1" * 31 + " corn", "mill: " + "0" * 29 + "1 corn >",
    "mill: " + "0" * 30 + "1 corn >", "mill: " + "1" * 5000 + " corn >",
    # Names.
    "Mill: >", "MILL: >", "mill2: >", "mi-ll: >", "mi_ll: >", "mi ll: >", "abcdefghi: >", "2: >", "mill.: >",
    "mill: 2 Corn >", "mill: 2 corN >", "mill: 2 corn2 >", "mill: 2 abcdefghi >", "mill: > 2 abcdefghi",
    "mill: 2 co-rn >", "mill: 2 corn, 1 water >", "mill: 2 corn; 1 water >", "mill: > 3 flour.", "mill: > 3 >",
    # Two works, other rows.
    "mill: > 1 corn; send: 1 corn >", "mill: > send: >", "work mill: >", "nothing", "none",
]

# Each with a good twice in one list, and so written but for that.
TWICE = [
    "mill: 1 corn 1 corn >", "mill: 1 corn 2 corn > 3 flour", "mill: > 1 corn 1 corn", "mill: 1 corn > 1 corn 2 corn",
    "mill: 1 corn 2 water 3 corn >", "mill: 1 corn > 2 a 3 b 4 c 5 a", "mill: 1 a 1 a > 1 b 1 b",
]

# Each with a good twice in one list, but not so written either.
TWICE_NOT_WRITTEN = [
    "mill: 1 corn 1 corn", "mill: 1 corn 0 corn >", "mill: 1 corn 1 corn > 1", "mill: 1 corn 1 corn > 01 flour",
    "mill: 1 corn 1 corn > 1 Flour", "mill: 1 corn 1 corn > ", "mill:  1 corn 1 corn >", "Mill: 1 corn 1 corn >",
    "mill: 1 corn 1 corn > >", "mill: > 1 corn 1 corn >", "mill: > 1 corn 1 corn 1", "mill: > 1 corn 1 corn ",
    "mill: 1 corn 1 corn > " + "1" * 31 + " flour", "mill: 1 Corn 1 Corn >",
]


class WorkTest(unittest.TestCase):
    def test_shown(self):
        for text, work in WRITTEN.items():
            self.assertEqual(show_work(work), text)

    def test_read(self):
        for text, work in WRITTEN.items():
            self.assertEqual(read_work(text), work)

    def test_kinds(self):
        name, uses, makes = read_work("mill: 2 corn > 3 flour")
        self.assertIs(type(read_work("mill: 2 corn > 3 flour")), tuple)
        self.assertEqual([type(name), type(uses), type(makes)], [str, list, list])
        for part in uses + makes:
            self.assertIs(type(part), tuple)
            self.assertEqual([type(one) for one in part], [str, int])

    def test_read_work_goes_into_a_yard(self):
        work = read_work("mill: 2 corn 1 water > 3 flour")
        self.assertEqual(Yard(["corn", "water", "flour"], [work]).change(0), [-2, -1, 3])

    def test_back_and_forth(self):
        for yard in some_yards():
            for work in yard.works():
                text = show_work(work)
                self.assertEqual(read_work(text), work)
                self.assertEqual(show_work(read_work(text)), text)

    def test_amounts_of_one_to_thirty_figures(self):
        for many in range(1, 31):
            for figures in ("1" + "0" * (many - 1), "9" * many):
                self.assertEqual(read_work(f"w: > {figures} a"), ("w", [], [("a", int(figures))]))
                self.assertEqual(show_work(("w", [("a", int(figures))], [])), f"w: {figures} a >")

    def test_more_than_ten_goods(self):
        names = [one + other for one in "abcde" for other in "abcde"]
        text = "w: " + " ".join(f"{at + 1} {name}" for at, name in enumerate(names)) + " >"
        work = ("w", [(name, at + 1) for at, name in enumerate(names)], [])
        self.assertEqual(read_work(text), work)
        self.assertEqual(show_work(work), text)
        text = "w: > " + " ".join(f"7 {name}" for name in names)
        self.assertEqual(read_work(text), ("w", [], [(name, 7) for name in names]))

    def test_not_written_so(self):
        for text in NOT_WRITTEN:
            with self.subTest(text[:60]):
                assert_refused(self, NoText, read_work, text)

    def test_a_good_twice_in_one_list(self):
        for text in TWICE:
            with self.subTest(text):
                assert_refused(self, NoGood, read_work, text)

    def test_not_written_so_ahead_of_a_good_twice(self):
        for text in TWICE_NOT_WRITTEN:
            with self.subTest(text):
                assert_refused(self, NoText, read_work, text)

    def test_one_sign_put_in_taken_out_or_turned(self):
        # What is not refused is written so: it comes back as the same text.
        text = "mill: 2 corn 10 tea > 3 rye"
        seen = 0
        for at in range(len(text) + 1):
            for sign in [" ", ":", ">", "0", "7", "q", "Q", "-", ""]:
                for other in (text[:at] + sign + text[at:], text[:at] + sign + text[at + 1:]):
                    try:
                        self.assertEqual(show_work(read_work(other)), other)
                        seen += 1
                    except (NoText, NoGood):
                        pass
        self.assertGreater(seen, 100)

    def test_drawn_works_back_and_forth(self):
        drawn = Numbers(41)
        for _ in range(200):
            size = 10 ** drawn.number(0, 30) - 1
            goods = drawn.shuffled(NAMES)
            uses = [(good, drawn.number(1, max(size, 1))) for good in goods[:drawn.number(0, 10)]]
            makes = [(good, drawn.number(1, max(size, 1))) for good in reversed(goods[:drawn.number(0, 10)])]
            work = ("work", uses, makes)
            self.assertEqual(read_work(show_work(work)), work)


class ListTest(unittest.TestCase):
    def test_ordinary(self):
        self.assertEqual(show_list([2, -1], ["mill", "oven"]), "2 mill -1 oven")
        self.assertEqual(show_list([1], ["mill"]), "1 mill")
        self.assertEqual(show_list([-1], ["mill"]), "-1 mill")

    def test_noughts_are_passed_over(self):
        self.assertEqual(show_list([0, 2, 0, -30, 0], ["a", "b", "c", "d", "e"]), "2 b -30 d")
        self.assertEqual(show_list([5, 0, 0], ["a", "b", "c"]), "5 a")

    def test_in_order(self):
        self.assertEqual(show_list([3, 1, 2], ["c", "a", "b"]), "3 c 1 a 2 b")

    def test_nothing(self):
        self.assertEqual(show_list([], []), "nothing")
        self.assertEqual(show_list([0], ["a"]), "nothing")
        self.assertEqual(show_list([0, 0, 0], ["a", "b", "c"]), "nothing")

    def test_great_numbers(self):
        self.assertEqual(show_list([THIRTY, -THIRTY], ["a", "b"]), "9" * 30 + " a -" + "9" * 30 + " b")
        self.assertEqual(show_list([10 ** 599, -(10 ** 599)], ["a", "b"]), "1" + "0" * 599 + " a -1" + "0" * 599 + " b")


class RatioTest(unittest.TestCase):
    def test_bottom_one(self):
        for told, text in (((0, 1), "0"), ((1, 1), "1"), ((7, 1), "7"), ((-7, 1), "-7"), ((10, 1), "10")):
            self.assertEqual(show_ratio(told), text)

    def test_bottom_above_one(self):
        for told, text in (((1, 2), "1/2"), ((3, 2), "3/2"), ((-1, 2), "-1/2"), ((-13, 10), "-13/10")):
            self.assertEqual(show_ratio(told), text)
        self.assertEqual(show_ratio((1, 11)), "1/11")

    def test_figures_as_python_writes_them(self):
        drawn = Numbers(42)
        for many in list(range(1, 200)) + [300, 600, 601, 1200, 4000]:
            top, bottom = drawn.number(10 ** (many - 1), 10 ** many - 1), 10 ** (many - 1)
            common = gcd(top, bottom)
            self.assertEqual(show_ratio((top, 1)), str(top))
            self.assertEqual(show_ratio((-top, 1)), str(-top))
            self.assertEqual(show_ratio((bottom, 1)), str(bottom))
            if bottom // common > 1:
                told = (top // common, bottom // common)
                self.assertEqual(show_ratio(told), f"{top // common}/{bottom // common}")

    def test_more_figures_than_python_itself_writes(self):
        for many in (4299, 4300, 4301, 5000, 20000):
            self.assertEqual(show_ratio((10 ** many + 7, 3)), "1" + "0" * (many - 1) + "7/3")
            self.assertEqual(show_ratio((-1, 10 ** many)), "-1/1" + "0" * many)
            self.assertEqual(show_ratio((-(10 ** many) + 1, 1)), "-" + "9" * many)

    def test_a_ratio_that_was_told(self):
        one = (10 ** 600 - 1, 10 ** 599)
        for _ in range(4):
            one = times(one, one)
        top, bottom = show_ratio(one).split("/")
        self.assertEqual((len(top), bottom), (9600, "1" + "0" * (599 * 16)))
        self.assertEqual(show_ratio(plus(one, (-one[0], one[1]))), "0")


class HandedTest(unittest.TestCase):
    def test_handed_things_stay_as_they_were(self):
        work = ("mill", [("corn", 2)], [("flour", 3)])
        before = copy.deepcopy(work)
        show_work(work)
        self.assertEqual(work, before)
        numbers, names = [1, 0, -2], ["a", "b", "c"]
        show_list(numbers, names)
        self.assertEqual((numbers, names), ([1, 0, -2], ["a", "b", "c"]))

    def test_read_lists_are_the_askers_own(self):
        text = "mill: 2 corn 1 water > 3 flour"
        name, uses, makes = read_work(text)
        uses.clear()
        makes.append(("dust", 1))
        self.assertEqual(read_work(text), WRITTEN[text])
        name, uses, makes = read_work("rest: >")
        uses.append(("dust", 1))
        self.assertEqual(makes, [])
        self.assertEqual(read_work("rest: >"), ("rest", [], []))


if __name__ == "__main__":
    unittest.main()
