"""Names, works and yards, and what a way leaves of a yard's goods."""

from modeyard.errors import NoAmount, NoGood, NoName, NoWay, TooMany
from modeyard.lines import sum_of_products
from modeyard.ratios import is_whole

MOST_LETTERS = 8
MOST_GOODS = 10
MOST_WORKS = 10


def is_name(text):
    if len(text) < 1 or len(text) > MOST_LETTERS:
        return False
    return all(["a" <= sign <= "z" for sign in text])


def check_many(goods, works):
    if len(goods) > MOST_GOODS:
        raise TooMany(f"a yard has at most {MOST_GOODS} goods")
    if len(works) > MOST_WORKS:
        raise TooMany(f"a yard has at most {MOST_WORKS} works")


def check_name(text, earlier):
    if not is_name(text):
        raise NoName(f"{text!r} is no name")
    if text in earlier:
        raise NoName(f"{text!r} comes a second time")


def check_goods(goods):
    for at, good in enumerate(goods):
        check_name(good, goods[:at])


def check_good(good, goods, earlier):
    if good not in goods:
        raise NoGood(f"{good!r} is no good of the yard")
    if good in earlier:
        raise NoGood(f"{good!r} comes a second time in one list")


def check_amount(amount):
    if not is_whole(amount) or amount < 1:
        raise NoAmount("an amount is a whole number from 1 on")


def check_parts(parts, goods):
    earlier = []
    for good, amount in parts:
        check_good(good, goods, earlier)
        check_amount(amount)
        earlier.append(good)


def check_works(works, goods):
    earlier = []
    for name, uses, makes in works:
        check_name(name, earlier)
        check_parts(uses, goods)
        check_parts(makes, goods)
        earlier.append(name)


def copy_work(work):
    # The tuples within the lists hold nothing that can be changed, so they are shared.
    return (work[0], list(work[1]), list(work[2]))


def amount_of(good, parts):
    return sum([part[1] for part in parts if part[0] == good])


def change_of(work, goods):
    return [amount_of(good, work[2]) - amount_of(good, work[1]) for good in goods]


class Yard:
    def __init__(self, goods, works):
        check_many(goods, works)
        check_goods(goods)
        check_works(works, goods)
        self.held_goods = list(goods)
        self.held_works = [copy_work(work) for work in works]
        self.held_changes = [change_of(work, goods) for work in works]

    def goods(self):
        return list(self.held_goods)

    def works(self):
        return [copy_work(work) for work in self.held_works]

    def names(self):
        return [work[0] for work in self.held_works]

    def change(self, at):
        return list(self.held_changes[at])

    def row(self, at):
        return [change[at] for change in self.held_changes]

    def rows(self):
        return [self.row(at) for at in range(len(self.held_goods))]

    def check_way(self, way):
        if len(way) != len(self.held_works):
            raise NoWay("a way has a number for each work")
        if any([often < 0 for often in way]):
            raise NoWay("no work goes less often than never")

    def leaves(self, way):
        self.check_way(way)
        return [sum_of_products(row, way) for row in self.rows()]

    def balanced(self, way):
        return all([left == 0 for left in self.leaves(way)])
