"""The lone ways of a yard, and the shares of these in a balanced way."""

from modeyard.errors import NoBalance
from modeyard.lone import lone, shares


def ways(yard):
    return lone(yard.rows(), len(yard.names()))


def parted(yard, way):
    if not yard.balanced(way):
        raise NoBalance("the way leaves more or less than nothing of some good")
    return shares(yard.rows(), len(yard.names()), way)
