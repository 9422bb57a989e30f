"""Weights of goods, the sums that every work keeps, and pools."""

from modeyard.errors import NoBalance, NoWeights
from modeyard.lines import first_not_nought, still, sum_of_products
from modeyard.lone import lone, shares
from modeyard.ratios import ratio


def changes(yard):
    return [yard.change(at) for at in range(len(yard.names()))]


def check_weights(yard, weights):
    if len(weights) != len(yard.goods()):
        raise NoWeights("weights have a number for each good")


def check_kept(yard, weights):
    if not is_kept(yard, weights):
        raise NoBalance("the weights are not kept by every work")


def weighed(yard, weights, amounts):
    check_weights(yard, weights)
    return sum_of_products(weights, amounts)


def is_kept(yard, weights):
    check_weights(yard, weights)
    return all([sum_of_products(weights, change) == 0 for change in changes(yard)])


def kept(yard):
    return still(changes(yard), len(yard.goods()))


def share_at_lead(weights, row):
    # Where a plain row has its lead all others have 0, so this row alone makes up the weight there.
    at = first_not_nought(row)
    return ratio(weights[at], row[at])


def kept_shares(yard, weights):
    check_kept(yard, weights)
    return [share_at_lead(weights, row) for row in kept(yard)]


def pools(yard):
    return lone(changes(yard), len(yard.goods()))


def pool_shares(yard, weights):
    check_kept(yard, weights)
    if any([weight < 0 for weight in weights]):
        raise NoBalance("one of the weights is below 0")
    return shares(changes(yard), len(yard.goods()), weights)
