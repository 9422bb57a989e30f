"""A clerk that keeps works and answers rows of text."""

from modeyard.crews import crews, most
from modeyard.errors import NoRow
from modeyard.never import idle, place_of
from modeyard.sums import kept, pools
from modeyard.texts import is_number, read_work, show_list, show_ratio, show_work
from modeyard.ways import ways
from modeyard.yards import Yard, check_name, is_name


def goods_of(works):
    told = []
    for work in works:
        for part in work[1] + work[2]:
            if part[0] not in told:
                told.append(part[0])
    return told


def yard_of(works):
    return Yard(goods_of(works), works)


def row_of_words(words):
    if not words:
        return "none"
    return " ".join(words)


def row_of_texts(told):
    if not told:
        return "none"
    return "; ".join(told)


def row_of_lists(lists, names):
    return row_of_texts([show_list(numbers, names) for numbers in lists])


def tell_works(yard):
    return row_of_texts([show_work(work) for work in yard.works()])


def tell_goods(yard):
    return row_of_words(yard.goods())


def tell_ways(yard):
    return row_of_lists(ways(yard), yard.names())


def tell_kept(yard):
    return row_of_lists(kept(yard), yard.goods())


def tell_pools(yard):
    return row_of_lists(pools(yard), yard.goods())


def tell_idle(yard):
    return row_of_words(idle(yard))


def tell_crews(yard):
    return row_of_texts([" ".join(crew) for crew in crews(yard)])


TELL = {
    "works": tell_works,
    "goods": tell_goods,
    "ways": tell_ways,
    "kept": tell_kept,
    "pools": tell_pools,
    "idle": tell_idle,
    "crews": tell_crews,
}


def tell_most(yard, one, other):
    told = most(yard, one, other)
    if told[0] == "most":
        return show_ratio(told[1])
    return told[0]


def tell_leaves(yard, numbers, names):
    way = [0] * len(yard.names())
    for number, name in zip(numbers, names):
        way[place_of(yard, name)] = int(number)
    return show_list(yard.leaves(way), yard.goods())


def are_names(words, many):
    return len(words) == many and all([is_name(word) for word in words])


def are_goings(numbers, names):
    if len(numbers) < 1 or len(set(names)) < len(names):
        return False
    return are_names(names, len(numbers)) and all([is_number(word) for word in numbers])


class Clerk:
    def __init__(self):
        self.yard = Yard([], [])

    def put_in(self, text):
        # The name is asked here, since a yard tells of too many works or goods ahead of a name.
        work = read_work(text)
        check_name(work[0], self.yard.names())
        self.yard = yard_of(self.yard.works() + [work])
        return "ok"

    def drop(self, name):
        at = place_of(self.yard, name)
        works = self.yard.works()
        self.yard = yard_of(works[:at] + works[at + 1:])
        return "ok"

    def say(self, row):
        words = row.split(" ")
        first = words[0]
        rest = words[1:]
        if first == "work" and rest:
            return self.put_in(row[len("work "):])
        if first == "drop" and are_names(rest, 1):
            return self.drop(rest[0])
        if first == "most" and are_names(rest, 2):
            return tell_most(self.yard, rest[0], rest[1])
        if first == "leaves" and are_goings(rest[0::2], rest[1::2]):
            return tell_leaves(self.yard, rest[0::2], rest[1::2])
        if row in TELL:
            return TELL[row](self.yard)
        raise NoRow("the row has none of the forms that a clerk is told")
