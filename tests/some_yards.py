"""Yards that more than one test asks."""

from modeyard.yards import Yard
from reckon import Numbers

THIRTY = 10 ** 30 - 1
NAMES = ["a", "b", "c", "d", "e", "f", "g", "h", "i", "j"]


def bakery():
    return Yard(
        ["corn", "flour", "water", "bread"],
        [
            ("bring", [], [("corn", 1)]),
            ("mill", [("corn", 2)], [("flour", 3)]),
            ("well", [], [("water", 5)]),
            ("oven", [("water", 1), ("flour", 3)], [("bread", 2)]),
            ("send", [("bread", 1)], []),
        ],
    )


def ring():
    """Goods that turn into one another, two works alike, one that changes nothing, one that never goes."""
    return Yard(
        ["ice", "water", "steam", "dust"],
        [
            ("melt", [("ice", 1)], [("water", 1)]),
            ("thaw", [("ice", 1)], [("water", 1)]),
            ("boil", [("water", 1)], [("steam", 1)]),
            ("rime", [("steam", 2)], [("ice", 2)]),
            ("stir", [("water", 3)], [("water", 3)]),
            ("sweep", [], [("dust", 1)]),
        ],
    )


def parts(drawn, goods, size):
    return [(good, drawn.number(1, size)) for good in goods if drawn.number(0, 2) == 0]


def drawn_yard(drawn, how_many_goods, how_many_works, size):
    goods = NAMES[:how_many_goods]
    works = [(name, parts(drawn, goods, size), parts(drawn, goods, size)) for name in NAMES[:how_many_works]]
    return Yard(goods, works)


def some_yards():
    drawn = Numbers(21)
    told = [
        bakery(), ring(), Yard([], []), Yard(["a", "b"], []), Yard([], [("v", [], []), ("w", [], [])]),
        Yard(["a"], [("w", [], [("a", THIRTY)]), ("x", [("a", THIRTY - 1)], [])]),
        Yard(["a", "b"], [("w", [("a", THIRTY)], [("b", THIRTY - 1)])]),
    ]
    told += [drawn_yard(drawn, drawn.number(0, 6), drawn.number(0, 6), 3) for _ in range(150)]
    told += [drawn_yard(drawn, 3, 7, 2) for _ in range(30)] + [drawn_yard(drawn, 7, 3, 2) for _ in range(30)]
    told += [drawn_yard(drawn, 10, 10, 3) for _ in range(10)]
    told += [drawn_yard(drawn, 4, 5, THIRTY) for _ in range(5)] + [drawn_yard(drawn, 5, 4, THIRTY) for _ in range(5)]
    return told


def all_told(yard):
    """What a yard itself answers."""
    return [yard.goods(), yard.works(), yard.names(), yard.rows()]
