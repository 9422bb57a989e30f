"""Which works ever go in a balanced way, and weights which show that one never does."""

from modeyard.errors import NoWork
from modeyard.lines import made_of, still, sum_of_products, unit
from modeyard.lone import lone
from modeyard.ways import ways


def place_of(yard, name):
    names = yard.names()
    if name not in names:
        raise NoWork(name)
    return names.index(name)


def first_with(lists, at):
    for one in lists:
        if one[at] > 0:
            return one
    return None


def weights_above(yard, demands):
    # Told are times, from 1 on, and weights that weigh the change of each work as times its demand or more. There are
    # such ones just where no balanced way comes above 0 if each going of a work counts as its demand, and only such
    # demands are asked. What weights make of the changes is a sum of the rows, and these sums are just the lists that
    # come to 0 with each still row. So what is weighed above the demands, with times behind it, is a fit list of the
    # wanted rows, and some lone one has times above 0.
    rows = yard.rows()
    many = len(demands)
    wanted = [row + [sum_of_products(row, demands)] for row in still(rows, many)]
    found = first_with(lone(wanted, many + 1), many)
    goal = [spare + found[many] * demand for spare, demand in zip(found, demands)]
    made = made_of(rows, goal)
    return (made[0] * found[many], made[1])


def seen(yard, name):
    at = place_of(yard, name)
    way = first_with(ways(yard), at)
    if way is not None:
        return ("goes", way)
    told = weights_above(yard, unit(at, len(yard.names())))
    return ("never", told[1])


def idle(yard):
    found = ways(yard)
    return [name for at, name in enumerate(yard.names()) if first_with(found, at) is None]
