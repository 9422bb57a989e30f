"""Rows of whole numbers: their plain rows, their still rows, and goals made of them."""

from modeyard.ratios import lowest


def sum_of_products(numbers, others):
    return sum([number * other for number, other in zip(numbers, others)])


def unit(at, many):
    told = [0] * many
    told[at] = 1
    return told


def units(many):
    return [unit(at, many) for at in range(many)]


def offset(one, one_value, other, other_value):
    # A row that comes to these values with the two lists comes to 0 with the told one. Where the other value is above
    # 0, the numbers of one keep their signs wherever the other list has 0.
    mixed = [number * other_value - other_number * one_value for number, other_number in zip(one, other)]
    return lowest(mixed)


def column(rows, at):
    return [row[at] for row in rows]


def first_not_nought(numbers):
    for at, number in enumerate(numbers):
        if number != 0:
            return at
    return None


def with_sign_above(row, at):
    if row[at] > 0:
        return row
    return [-number for number in row]


def cleared(row, lead_row, at):
    if row[at] == 0:
        return row
    return offset(row, row[at], lead_row, lead_row[at])


def plain(rows, many):
    left = [lowest(row) for row in rows]
    done = []
    for at in range(many):
        found = first_not_nought(column(left, at))
        if found is not None:
            lead_row = with_sign_above(left.pop(found), at)
            left = [cleared(row, lead_row, at) for row in left]
            done = [cleared(row, lead_row, at) for row in done]
            done.append(lead_row)
    return done


def still_by_one_more(lists, row):
    values = [sum_of_products(row, one) for one in lists]
    found = first_not_nought(values)
    if found is None:
        return lists
    base = lists[found]
    base_value = values[found]
    return [offset(one, values[at], base, base_value) for at, one in enumerate(lists) if at != found]


def still(rows, many):
    # Of no rows each list is still, so this begins with lists of which all come; each row takes one away at most.
    lists = units(many)
    for row in rows:
        lists = still_by_one_more(lists, row)
    return plain(lists, many)


def made_of(rows, goal):
    # A list that is still across goal and rows tells how the rows make up for the goal. Only the first plain one can
    # have a number for the goal, and it is a lead, so it is above 0.
    across = [column([goal] + rows, at) for at in range(len(goal))]
    found = still(across, 1 + len(rows))
    if not found or found[0][0] == 0:
        return None
    return (found[0][0], [-number for number in found[0][1:]])
