"""Lone lists of rows, and the shares of these in a fit list."""

from modeyard.errors import NoFit
from modeyard.lines import first_not_nought, offset, sum_of_products, units
from modeyard.ratios import lowest, ratio


def places_of(numbers):
    # One bit for each place above 0, so that places are held against one another at one stroke.
    bits = 0
    for number in numbers:
        bits = bits * 2
        if number > 0:
            bits = bits + 1
    return bits


def is_among(places, others):
    return places | others == others


def are_neighbours(one, other, all_places):
    # The two themselves are among both. Where a third one is, sums of the two are sums of others as well, so what comes
    # of the two has places to spare and is not lone.
    both = one | other
    return len([places for places in all_places if is_among(places, both)]) == 2


def lone_by_one_more(lists, row):
    # From the lone lists of some rows come those of these and one more row: those that it brings to 0, and one of each
    # two neighbours that it brings above and below 0.
    values = [sum_of_products(row, one) for one in lists]
    places = [places_of(one) for one in lists]
    told = [one for one, value in zip(lists, values) if value == 0]
    above = [at for at, value in enumerate(values) if value > 0]
    below = [at for at, value in enumerate(values) if value < 0]
    for high in above:
        for low in below:
            if are_neighbours(places[high], places[low], places):
                told.append(offset(lists[low], values[low], lists[high], values[high]))
    return told


def lone(rows, many):
    lists = units(many)
    for row in rows:
        lists = lone_by_one_more(lists, row)
    return sorted(lists)


def check_fit(rows, many, fit):
    if len(fit) != many:
        raise NoFit("a fit list has a number for each place of a row")
    if any([number < 0 for number in fit]):
        raise NoFit("a fit list has no number below 0")
    if any([sum_of_products(row, fit) != 0 for row in rows]):
        raise NoFit("a fit list is still")


def tightest_place(left, one):
    best = first_not_nought(one)
    for at, number in enumerate(one):
        if number > 0 and left[at] * one[best] < left[best] * number:
            best = at
    return best


def shares(rows, many, fit):
    check_fit(rows, many, fit)
    told = []
    # What is left of the fit list is left, number by number over bottom.
    left = list(fit)
    bottom = 1
    for one in lone(rows, many):
        # Each share is as great as can be, so it takes a place from what is left: there are no more shares than
        # places. What is left in the end has no lone list among its places (it would have been taken), so it is 0.
        if is_among(places_of(one), places_of(left)):
            at = tightest_place(left, one)
            told.append((ratio(left[at], bottom * one[at]), one))
            rest = [number * one[at] - other * left[at] for number, other in zip(left, one)]
            reduced = lowest(rest + [bottom * one[at]])
            left = reduced[:many]
            bottom = reduced[many]
    return told
