"""How often one work goes at most for another one, and the works that go together."""

from modeyard.never import place_of, weights_above
from modeyard.ratios import ratio
from modeyard.ways import ways


def demands_of_two(many, first, first_demand, second, second_demand):
    # Both may be the same work, so the demands are put together.
    told = [0] * many
    told[first] = told[first] + first_demand
    told[second] = told[second] + second_demand
    return told


def way_without(found, first, second):
    for way in found:
        if way[first] > 0 and way[second] == 0:
            return way
    return None


def way_with_most(found, first, second):
    # Over a sum of ways one work goes no oftener for the other one than in the best of them, so lone ways will do.
    best = found[0]
    for way in found:
        if way[first] * best[second] > best[first] * way[second]:
            best = way
    return best


def most(yard, one, other):
    first = place_of(yard, one)
    second = place_of(yard, other)
    found = ways(yard)
    many = len(yard.names())
    free = way_without(found, first, second)
    if free is not None:
        return ("free", free)
    with_other = [way for way in found if way[second] > 0]
    if not with_other:
        # If the first work went in some way, it would go there without the second one: so both are idle.
        told = weights_above(yard, demands_of_two(many, first, 1, second, 1))
        return ("never", told[1])
    best = way_with_most(with_other, first, second)
    often = ratio(best[first], best[second])
    told = weights_above(yard, demands_of_two(many, first, often[1], second, -often[0]))
    return ("most", often, best, told[0], told[1])


def crews(yard):
    # Every balanced way is a sum of lone ones, so works of one crew are those that go in the same lone ways.
    found = ways(yard)
    told = {}
    for at, name in enumerate(yard.names()):
        goes = tuple([way[at] > 0 for way in found])
        if any(goes):
            told[goes] = told.get(goes, []) + [name]
    return list(told.values())
