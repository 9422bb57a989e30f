"""What promises 20 and 22 ask of what is told, held against the works themselves."""

from math import gcd

from reckon import assert_ratio, assert_whole, dot, places, rank


def changes_of(yard):
    """The works' changes, from the works alone."""
    told = []
    for name, uses, makes in yard.works():
        told.append([dict(makes).get(good, 0) - dict(uses).get(good, 0) for good in yard.goods()])
    return told


def is_lone_way(yard, way):
    """It balances, goes in lowest numbers, and no other balanced way goes with its works alone."""
    changes, many = changes_of(yard), len(yard.goods())
    if len(way) != len(changes) or min(way) < 0 or max(way) == 0 or gcd(*way) != 1:
        return False
    if any(dot(way, [change[at] for change in changes]) != 0 for at in range(many)):
        return False
    chosen = [changes[at] for at in places(way)]
    return rank(chosen, many) == len(chosen) - 1


def assert_lone_way(case, yard, way):
    assert_whole(case, way)
    case.assertTrue(is_lone_way(yard, way), way)


def assert_weigh(case, yard, weights, demands):
    """They weigh the change of each work as its demand or more."""
    assert_whole(case, weights)
    case.assertEqual(len(weights), len(yard.goods()))
    case.assertEqual(len(demands), len(yard.names()))
    for change, demand in zip(changes_of(yard), demands):
        case.assertGreaterEqual(dot(weights, change), demand)


def assert_seen(case, yard, name, told):
    at = yard.names().index(name)
    case.assertIs(type(told), tuple)
    case.assertEqual(len(told), 2)
    case.assertIn(told[0], ["goes", "never"])
    if told[0] == "goes":
        assert_lone_way(case, yard, told[1])
        case.assertGreater(told[1][at], 0)
    else:
        assert_weigh(case, yard, told[1], [int(place == at) for place in range(len(yard.names()))])


def demands_of(yard, first, second, ratio, times):
    """What the weights weigh the changes as at least, as promise 22 tells for most."""
    told = [0] * len(yard.names())
    if first != second:
        told[first] = times * ratio[1]
        told[second] = -times * ratio[0]
    return told


def assert_most(case, yard, one, other, told):
    first, second = yard.names().index(one), yard.names().index(other)
    case.assertIs(type(told), tuple)
    case.assertIn(told[0], ["free", "never", "most"])
    if told[0] == "free":
        case.assertEqual(len(told), 2)
        assert_lone_way(case, yard, told[1])
        case.assertGreater(told[1][first], 0)
        case.assertEqual(told[1][second], 0)
    elif told[0] == "never":
        case.assertEqual(len(told), 2)
        assert_weigh(case, yard, told[1], [int(place in (first, second)) for place in range(len(yard.names()))])
    else:
        kind, ratio, way, times, weights = told
        assert_ratio(case, ratio)
        assert_lone_way(case, yard, way)
        case.assertGreater(way[second], 0)
        case.assertEqual(ratio[1] * way[first], ratio[0] * way[second])
        case.assertIs(type(times), int)
        case.assertGreaterEqual(times, 1)
        assert_weigh(case, yard, weights, demands_of(yard, first, second, ratio, times))


def searched_seen(found, at):
    return "goes" if any(way[at] > 0 for way in found) else "never"


def searched_most(found, first, second):
    """The kind of the answer, and for most how often, from all lone ways."""
    if any(way[first] > 0 and way[second] == 0 for way in found):
        return ("free", None)
    often = [(way[first], way[second]) for way in found if way[second] > 0]
    if not often:
        return ("never", None)
    top, bottom = often[0]
    for one, other in often:
        if one * bottom > top * other:
            top, bottom = one, other
    return ("most", (top // gcd(top, bottom), bottom // gcd(top, bottom)))


def searched_crews(found, names):
    told = []
    for at, name in enumerate(names):
        goes = [way[at] > 0 for way in found]
        mates = [other for place, other in enumerate(names) if [way[place] > 0 for way in found] == goes]
        if any(goes) and mates[0] == name:
            told.append(mates)
    return told
