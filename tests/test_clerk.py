"""Promises 26 and 27, and what promise 2 says of a clerk."""

import unittest

from modeyard.clerk import Clerk
from modeyard.crews import crews, most
from modeyard.errors import NoGood, NoName, NoRow, NoText, NoWork, TooMany, YardError
from modeyard.never import idle
from modeyard.sums import kept, pools
from modeyard.texts import read_work, show_list, show_ratio, show_work
from modeyard.ways import ways
from modeyard.yards import Yard
from reckon import Numbers, assert_refused
from some_yards import NAMES, THIRTY

MILL = "mill: 2 corn 1 water > 3 flour"
BRING = "bring: > 1 corn"
SEND = "send: 1 flour >"
WELL = "well: > 7 water"
REST = "rest: >"
QUESTIONS = ["works", "goods", "ways", "kept", "pools", "idle", "crews"]
NINES = "9" * 30


def clerk_of(texts):
    told = Clerk()
    for text in texts:
        told.say("work " + text)
    return told


def all_answers(clerk):
    """All that a clerk answers to questions about the works that stand."""
    told = [clerk.say(row) for row in QUESTIONS]
    if told[0] != "none":
        names = [text.split(":")[0] for text in told[0].split("; ")]
        told += [clerk.say(f"most {one} {other}") for one in names for other in names]
        told += [clerk.say(f"leaves 3 {name}") for name in names]
    return told


def reckoned(works):
    """What a clerk answers where these works stand, by the other modules."""
    goods = list(dict.fromkeys(good for name, uses, makes in works for good, amount in uses + makes))
    yard = Yard(goods, works)
    names = yard.names()
    told = [
        "; ".join(show_work(work) for work in works), " ".join(goods),
        "; ".join(show_list(way, names) for way in ways(yard)),
        "; ".join(show_list(sum_, goods) for sum_ in kept(yard)),
        "; ".join(show_list(pool, goods) for pool in pools(yard)),
        " ".join(idle(yard)), "; ".join(" ".join(crew) for crew in crews(yard)),
    ]
    told = [text or "none" for text in told]
    for one in names:
        for other in names:
            answer = most(yard, one, other)
            told.append(show_ratio(answer[1]) if answer[0] == "most" else answer[0])
    for at in range(len(names)):
        told.append(show_list([3 * number for number in yard.change(at)], goods))
    return told


class Case(unittest.TestCase):
    def assert_says(self, clerk, pairs):
        for row, answer in pairs:
            self.assertEqual(clerk.say(row), answer, row)

    def assert_no_change(self, kind, clerk, row):
        before = all_answers(clerk)
        assert_refused(self, kind, clerk.say, row)
        self.assertEqual(all_answers(clerk), before, row)

    def assert_no_work(self, clerk, row, name):
        self.assert_no_change(NoWork, clerk, row)
        with self.assertRaises(NoWork) as taken:
            clerk.say(row)
        self.assertEqual(taken.exception.name, name)


class AnswerTest(Case):
    def test_all_rows(self):
        self.assert_says(Clerk(), [
            ("work " + MILL, "ok"),
            ("work " + BRING, "ok"),
            ("work " + SEND, "ok"),
            ("work " + WELL, "ok"),
            ("work lose: > 5 dust", "ok"),
            ("works", MILL + "; " + BRING + "; " + SEND + "; " + WELL + "; lose: > 5 dust"),
            ("goods", "corn water flour dust"),
            ("ways", "7 mill 14 bring 21 send 1 well"),
            ("kept", "none"),
            ("pools", "none"),
            ("idle", "lose"),
            ("crews", "mill bring send well"),
            ("leaves 2 mill 3 bring", "-1 corn -2 water 6 flour"),
            ("leaves 7 mill 14 bring 21 send 1 well", "nothing"),
            ("most mill send", "1/3"),
            ("most send mill", "3"),
            ("most lose mill", "0"),
            ("most mill lose", "free"),
            ("most lose lose", "never"),
            ("most mill mill", "1"),
            ("drop lose", "ok"),
            ("works", MILL + "; " + BRING + "; " + SEND + "; " + WELL),
            ("goods", "corn water flour"),
            ("idle", "none"),
        ])

    def test_new_clerk(self):
        self.assert_says(Clerk(), [(row, "none") for row in QUESTIONS])

    def test_several_ways_kept_sums_pools_and_crews(self):
        self.assert_says(clerk_of(["melt: 1 ice > 1 water", "thaw: 1 ice > 1 water", "rime: 2 water > 2 ice", REST]), [
            ("ways", "1 rest; 2 thaw 1 rime; 2 melt 1 rime"),
            ("kept", "1 ice 1 water"),
            ("pools", "1 ice 1 water"),
            ("crews", "melt; thaw; rime; rest"),
            ("idle", "none"),
            ("most thaw rime", "2"),
            ("most rime melt", "free"),
        ])
        self.assert_says(clerk_of(["burn: 2 gas 1 air > 2 water", "grow: > 1 moss", "rot: > 3 moss"]), [
            ("ways", "none"),
            ("kept", "1 gas 1 water; 2 air 1 water"),
            ("pools", "2 air 1 water; 1 gas 1 water"),
            ("idle", "burn grow rot"),
            ("crews", "none"),
            ("most burn rot", "never"),
        ])

    def test_kept_sums_below_nought(self):
        self.assert_says(clerk_of(["make: > 2 a 3 b"]), [("kept", "3 a -2 b"), ("pools", "none")])

    def test_works_without_goods(self):
        self.assert_says(clerk_of([REST, "stay: >"]), [
            ("works", "rest: >; stay: >"), ("goods", "none"), ("ways", "1 stay; 1 rest"), ("kept", "none"),
            ("pools", "none"), ("idle", "none"), ("crews", "rest; stay"), ("leaves 5 rest", "nothing"),
            ("most rest stay", "free"), ("most stay stay", "1"),
        ])

    def test_works_called_like_a_row(self):
        texts = ["work: > 1 works", "works: 1 works >", "drop: > 1 most", "most: 1 most > 1 leaves"]
        texts.append("leaves: 1 leaves >")
        clerk = clerk_of(texts)
        self.assert_says(clerk, [
            ("works", "; ".join(texts)), ("goods", "works most leaves"), ("crews", "work works; drop most leaves"),
            ("leaves 1 leaves 2 drop", "2 most -1 leaves"), ("most most most", "1"), ("drop drop", "ok"),
            ("idle", "most leaves"), ("drop work", "ok"), ("works", "; ".join([texts[1], texts[3], texts[4]])),
        ])


class WorkTest(Case):
    def test_as_written(self):
        texts = [MILL, REST, "w: 10 z 20 a > 100 m 7 b 1 a", "x: " + NINES + " a > 1" + "0" * 29 + " b"]
        clerk = Clerk()
        for at, text in enumerate(texts):
            self.assertEqual(clerk.say("work " + text), "ok")
            self.assertEqual(clerk.say("works"), "; ".join(texts[:at + 1]))

    def test_not_written_so(self):
        clerk = clerk_of([MILL, BRING])
        for text in ["", " ", "mill", "send", "send:", "send 1 flour >", "send: 1 flour", "send: 0 flour >", " " + SEND,
                     SEND + " ", "send: 1  flour >", "send: 01 flour >", "Send: >", "send: 1 flour > >", "work " + SEND,
                     "send: " + "1" * 31 + " flour >", "abcdefghi: >", "send: 1 abcdefghi >"]:
            self.assert_no_change(NoText, clerk, "work " + text)

    def test_a_good_twice(self):
        clerk = clerk_of([MILL, BRING])
        self.assert_no_change(NoGood, clerk, "work send: 1 flour 1 flour >")
        self.assert_no_change(NoGood, clerk, "work send: > 1 flour 1 flour")

    def test_a_name_that_stands_already(self):
        clerk = clerk_of([MILL, BRING])
        self.assert_no_change(NoName, clerk, "work " + MILL)
        self.assert_no_change(NoName, clerk, "work bring: > 2 sand")
        # A good's name is no work's name, and what was dropped stands no more.
        self.assert_says(clerk, [("work corn: > 1 corn", "ok"), ("drop bring", "ok"), ("work bring: > 2 sand", "ok")])
        self.assertEqual(clerk.say("works"), MILL + "; corn: > 1 corn; bring: > 2 sand")

    def test_eleventh_work(self):
        clerk = clerk_of([name + ": >" for name in NAMES])
        self.assert_no_change(TooMany, clerk, "work k: >")
        self.assert_no_change(TooMany, clerk, "work k: > 1 corn")
        self.assert_says(clerk, [("drop c", "ok"), ("work k: > 1 corn", "ok"), ("goods", "corn")])
        self.assert_no_change(TooMany, clerk, "work c: >")

    def test_eleventh_good(self):
        ten = " ".join("1 " + name for name in NAMES)
        clerk = clerk_of(["all: > " + ten])
        self.assertEqual(clerk.say("goods"), " ".join(NAMES))
        self.assert_no_change(TooMany, clerk, "work more: > 1 k")
        self.assert_no_change(TooMany, clerk, "work more: 1 k > 1 a")
        self.assert_says(clerk, [("work same: " + ten + " >", "ok"), ("drop all", "ok"), ("drop same", "ok")])
        self.assert_says(clerk, [("work more: > 1 k", "ok"), ("work most: 1 k > 1 l", "ok"), ("goods", "k l")])
        self.assert_no_change(TooMany, clerk, "work all: > " + " ".join("1 " + name for name in NAMES[:9]))

    def test_eleven_goods_in_one_work(self):
        clerk = Clerk()
        eleven = " ".join("1 " + name for name in NAMES + ["k"])
        for text in ["all: > " + eleven, "all: " + eleven + " >", "all: " + eleven + " > " + eleven,
                     "all: 1 a 1 b 1 c 1 d 1 e 1 f > 1 g 1 h 1 i 1 j 1 k"]:
            self.assert_no_change(TooMany, clerk, "work " + text)
        self.assertEqual(clerk.say("work all: 1 a 1 b 1 c 1 d 1 e 1 f > 1 e 1 g 1 h 1 i 1 j"), "ok")

    def test_which_refusal_comes_first(self):
        clerk = clerk_of([name + ": >" for name in NAMES])
        eleven = " ".join("1 " + name for name in NAMES + ["k"])
        self.assert_no_change(NoText, clerk, "work a: 1 b 1 b > " + eleven + " ")
        self.assert_no_change(NoText, clerk, "work k: 1 b 1 b >  " + eleven)
        self.assert_no_change(NoGood, clerk, "work a: 1 b 1 b > " + eleven)
        self.assert_no_change(NoGood, clerk, "work k: 1 b 1 b > " + eleven)
        self.assert_no_change(NoName, clerk, "work a: > " + eleven)
        self.assert_no_change(NoName, clerk, "work a: >")
        self.assert_no_change(TooMany, clerk, "work k: > " + eleven)


class DropTest(Case):
    def test_goods_go_with_the_works(self):
        clerk = clerk_of([MILL, BRING, SEND])
        self.assert_says(clerk, [
            ("drop mill", "ok"), ("goods", "corn flour"), ("drop bring", "ok"), ("goods", "flour"),
            ("works", SEND), ("drop send", "ok"), ("goods", "none"), ("works", "none"), ("ways", "none"),
        ])

    def test_goods_turn_their_order(self):
        clerk = clerk_of(["one: 1 a 1 b > 1 c", "two: 2 c > 1 b", "three: > 4 d 3 a"])
        self.assert_says(clerk, [
            ("goods", "a b c d"), ("leaves 1 two 1 three", "3 a 1 b -2 c 4 d"),
            ("drop one", "ok"),
            ("goods", "c b d a"), ("leaves 1 two 1 three", "-2 c 1 b 4 d 3 a"), ("kept", "1 c 2 b; 3 d -4 a"),
            ("work one: 1 a 1 b > 1 c", "ok"), ("goods", "c b d a"),
            ("works", "two: 2 c > 1 b; three: > 4 d 3 a; one: 1 a 1 b > 1 c"),
        ])

    def test_a_good_named_first_among_what_is_made(self):
        self.assertEqual(clerk_of(["w: > 1 b 1 a", "x: 1 c 1 a > 1 d"]).say("goods"), "b a c d")
        self.assertEqual(clerk_of(["w: 1 z > 1 b 1 a", "x: 1 a > 1 z"]).say("goods"), "z b a")

    def test_no_such_work(self):
        clerk = clerk_of([MILL])
        self.assert_no_work(clerk, "drop bring", "bring")
        self.assert_no_work(clerk, "drop corn", "corn")
        self.assert_no_work(clerk, "drop mil", "mil")
        clerk.say("drop mill")
        self.assert_no_work(clerk, "drop mill", "mill")


class LeavesTest(Case):
    def test_numbers(self):
        clerk = clerk_of([MILL, BRING, SEND])
        self.assert_says(clerk, [
            ("leaves 1 mill", "-2 corn -1 water 3 flour"),
            ("leaves 0 mill", "nothing"),
            ("leaves 0 mill 1 send", "-1 flour"),
            ("leaves 1 send 0 mill", "-1 flour"),
            ("leaves 10 bring", "10 corn"),
            ("leaves " + NINES + " bring", NINES + " corn"),
            ("leaves " + NINES + " mill", f"{-2 * THIRTY} corn {-THIRTY} water {3 * THIRTY} flour"),
        ])

    def test_several_names_in_any_order(self):
        clerk = clerk_of([MILL, BRING, SEND])
        for row in ["leaves 1 mill 2 bring 3 send", "leaves 3 send 1 mill 2 bring", "leaves 2 bring 3 send 1 mill"]:
            self.assertEqual(clerk.say(row), "-1 water")

    def test_nothing_is_kept_of_it(self):
        clerk = clerk_of([MILL, BRING, SEND])
        before = all_answers(clerk)
        clerk.say("leaves 4 bring")
        self.assertEqual(clerk.say("leaves 1 send"), "-1 flour")
        self.assertEqual(all_answers(clerk), before)

    def test_rows_of_another_form(self):
        clerk = clerk_of([MILL, BRING, SEND])
        for row in [
            "leaves", "leaves ", "leaves 1", "leaves mill", "leaves mill 1", "leaves 1 mill 2", "leaves 1 mill bring",
            "leaves 1 mill bring 2", "leaves 1 mill 2 3 bring", "leaves -1 mill", "leaves +1 mill", "leaves 01 mill",
            "leaves 00 mill", "leaves -0 mill", "leaves 1/2 mill", "leaves 1. mill", "leaves one mill",
            "leaves 1_0 mill", "leaves " + "1" * 31 + " mill", "leaves 1 mill " + "0" * 31 + " bring",
            "leaves 1 Mill", "leaves 1 mill2",
            "leaves 1 abcdefghi", "leaves 1 mill 1 Bring", "leaves  1 mill", "leaves 1  mill", "leaves 1 mill ",
            " leaves 1 mill", "leaves 1 mill  1 bring", "leaves 1 mill 1 mill", "leaves 1 mill 2 bring 0 mill",
            "leaves 0 mill 0 mill", "leaves 1 mill, 2 bring", "leaves 1 mill > 2 bring", "leaves: 1 mill",
        ]:
            self.assert_no_change(NoRow, clerk, row)

    def test_no_such_work(self):
        clerk = clerk_of([MILL, BRING, SEND])
        self.assert_no_work(clerk, "leaves 1 corn", "corn")
        self.assert_no_work(clerk, "leaves 0 corn", "corn")
        self.assert_no_work(clerk, "leaves 1 mill 1 y 1 x", "y")
        self.assert_no_work(clerk, "leaves 1 x 1 y 1 mill", "x")
        self.assert_no_work(Clerk(), "leaves 1 x", "x")

    def test_another_form_ahead_of_no_such_work(self):
        clerk = clerk_of([MILL, BRING, SEND])
        for row in ["leaves 1 x 1", "leaves 1 x 01 mill", "leaves 1 x 1 x", "leaves 1 x 1 mill 1 mill",
                    "leaves 1 x 1 Y", "leaves 1 x ", "leaves 1 x 1 mill 2"]:
            self.assert_no_change(NoRow, clerk, row)


class MostTest(Case):
    def test_ratios_free_and_never(self):
        clerk = clerk_of(["in: > 4 a", "out: 6 a >", "slow: 9 a >", "lose: > 1 b", "waste: > 2 b"])
        self.assert_says(clerk, [
            ("most in out", "free"), ("most out in", "2/3"), ("most slow in", "4/9"), ("most out slow", "free"),
            ("most lose in", "0"), ("most in lose", "free"), ("most lose waste", "never"), ("most waste lose", "never"),
            ("most in in", "1"), ("most lose lose", "never"), ("drop slow", "ok"), ("most in out", "3/2"),
        ])

    def test_great_numbers(self):
        clerk = clerk_of(["in: > " + NINES + " a", "out: 1" + "0" * 29 + " a >"])
        self.assertEqual(clerk.say("most out in"), NINES + "/1" + "0" * 29)
        self.assertEqual(clerk.say("most in out"), "1" + "0" * 29 + "/" + NINES)

    def test_no_such_work(self):
        clerk = clerk_of([MILL, BRING])
        self.assert_no_work(clerk, "most mill x", "x")
        self.assert_no_work(clerk, "most x mill", "x")
        self.assert_no_work(clerk, "most y x", "y")
        self.assert_no_work(clerk, "most x y", "x")
        self.assert_no_work(clerk, "most corn water", "corn")

    def test_rows_of_another_form(self):
        clerk = clerk_of([MILL, BRING])
        for row in ["most", "most ", "most mill", "most mill ", "most mill bring mill", "most mill bring ",
                    "most  mill", "most mill  bring", " most mill bring", "most Mill bring", "most mill Bring",
                    "most mill 1",
                    "most 1 mill", "most mill, bring", "most mill abcdefghi", "most x", "most x Y", "most X y",
                    "most x y z"]:
            self.assert_no_change(NoRow, clerk, row)


class NoRowTest(Case):
    def test_none_of_the_forms(self):
        for clerk in (Clerk(), clerk_of([MILL, BRING])):
            for row in [
                "", " ", "  ", "mill", MILL, "help", "say works", "Works", "WORKS", "workss", "workmill: >", "none",
                "ok", "work", "Work mill: >", " work " + SEND, "work: " + SEND, "works: >", "seen mill", "rows",
                "names",
                "quit", "drop", "drop ", "drop  mill", "drop mill ", " drop mill", "drop mill bring", "drop Mill",
                "drop mill:",
                "drop 1", "drop abcdefghi", "drop mi-ll", "DROP mill", "drops mill", ":", ">", "; ", "works; goods",
            ]:
                self.assert_no_change(NoRow, clerk, row)

    def test_one_word_and_no_more(self):
        for clerk in (Clerk(), clerk_of([MILL, BRING])):
            for row in QUESTIONS:
                for wrong in (row + " ", " " + row, row + " mill", row + " " + row, row + ":", row[:-1], row.upper()):
                    self.assert_no_change(NoRow, clerk, wrong)

    def test_work_alone_and_with_one_blank_behind_it(self):
        clerk = clerk_of([MILL])
        self.assert_no_change(NoRow, clerk, "work")
        self.assert_no_change(NoText, clerk, "work ")
        self.assert_no_change(NoText, clerk, "work  ")
        self.assert_no_change(NoText, clerk, "work  " + SEND)
        self.assertEqual(clerk.say("work " + SEND), "ok")


class StandingTest(Case):
    def texts(self, drawn):
        goods = drawn.shuffled(["a", "b", "c", "d", "e", "ab", "cd"])[:drawn.number(0, 3)]
        uses = [f"{drawn.number(1, 3)} {good}" for good in goods if drawn.number(0, 1) == 0]
        makes = [f"{drawn.number(1, 3)} {good}" for good in drawn.shuffled(goods) if drawn.number(0, 1) == 0]
        return " ".join([drawn.shuffled(NAMES)[0] + ":"] + uses + [">"] + makes)

    def test_as_a_new_clerk_that_was_told_just_the_works_that_stand(self):
        drawn = Numbers(51)
        for _ in range(25):
            clerk, standing = Clerk(), {}
            for _ in range(drawn.number(0, 25)):
                text = self.texts(drawn)
                name = text.split(":")[0]
                row = "work " + text if drawn.number(0, 2) > 0 else "drop " + name
                try:
                    self.assertEqual(clerk.say(row), "ok")
                    if row.startswith("work"):
                        self.assertNotIn(name, standing)
                        standing[name] = text
                    else:
                        standing.pop(name)
                except (NoName, NoWork):
                    self.assertIs(name in standing, row.startswith("work"))
            self.assertEqual(all_answers(clerk), all_answers(clerk_of(standing.values())))
            self.assertEqual(all_answers(clerk), reckoned([read_work(text) for text in standing.values()]))

    def test_behind_every_refusal_all_answers_are_as_ahead(self):
        clerk = clerk_of([MILL, BRING, SEND])
        before = all_answers(clerk)
        refused = 0
        for row in ["work", "work ", "work x", "work x: 1 a 1 a >", "work mill: >", "drop x", "drop",
                    "leaves 1 mill 1 x", "leaves 1 mill 1", "most mill x", "most mill", "works ", "",
                    "work x: > " + " ".join("1 " + name for name in NAMES)]:
            try:
                clerk.say(row)
            except YardError:
                refused += 1
        self.assertEqual(refused, 14)
        self.assertEqual(all_answers(clerk), before)

    def test_two_clerks_know_nothing_of_each_other(self):
        one, other = clerk_of([MILL]), clerk_of([BRING])
        one.say("work " + SEND)
        one.say("drop mill")
        self.assertEqual(one.say("works"), SEND)
        self.assertEqual(other.say("works"), BRING)
        self.assertEqual(Clerk().say("works"), "none")

    def test_questions_change_nothing(self):
        clerk = clerk_of([MILL, BRING, SEND, WELL])
        self.assertEqual(all_answers(clerk), all_answers(clerk))

    def test_ten_works_and_ten_goods_of_thirty_figures(self):
        works = [(name, [(name, THIRTY - at)], [(NAMES[(at + 1) % 10], THIRTY)]) for at, name in enumerate(NAMES)]
        clerk = clerk_of([show_work(work) for work in works])
        self.assertEqual(all_answers(clerk), reckoned(works))
        clerk.say("drop j")
        clerk.say("work j: 1 j >")
        clerk.say("drop d")
        clerk.say("work d: > 1 e")
        left = works[:3] + works[4:9] + [("j", [("j", 1)], []), ("d", [], [("e", 1)])]
        self.assertEqual(all_answers(clerk), reckoned(left))
        self.assertEqual(clerk.say("idle"), "a b c")


if __name__ == "__main__":
    unittest.main()
