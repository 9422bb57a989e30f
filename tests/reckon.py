"""What the tests reckon by themselves, by other means than the program: fractions, and searches through all choices."""

from fractions import Fraction
from itertools import combinations
from math import gcd

from modeyard import errors

REFUSALS = [
    errors.NoRatio, errors.TooMany, errors.NoName, errors.NoGood, errors.NoAmount, errors.NoWay,
    errors.NoFit, errors.NoBalance, errors.NoWeights, errors.NoWork, errors.NoText, errors.NoRow,
]


def assert_refused(case, kind, ask, *handed):
    """Refused with this kind, taken by it and by the bases, and by none of the others."""
    for taker in (kind, errors.YardError, ValueError):
        with case.assertRaises(taker) as taken:
            ask(*handed)
        case.assertEqual([one for one in REFUSALS if isinstance(taken.exception, one)], [kind])


class Numbers:
    """Numbers that look mixed up, the same ones at each run."""

    def __init__(self, seed):
        self.state = seed

    def number(self, low, high):
        """From low to high, both of them among it."""
        drawn = 0
        for _ in range(5):
            self.state = (self.state * 6364136223846793005 + 1442695040888963407) % 2 ** 64
            drawn = drawn * 2 ** 32 + self.state // 2 ** 32
        return low + drawn % (high - low + 1)

    def row(self, many, low, high):
        return [self.number(low, high) for _ in range(many)]

    def rows(self, how_many, many, low, high):
        return [self.row(many, low, high) for _ in range(how_many)]

    def shuffled(self, things):
        left, told = list(things), []
        while left:
            told.append(left.pop(self.number(0, len(left) - 1)))
        return told


def dot(one, other):
    return sum(number * by for number, by in zip(one, other))


def together(rows, often, many):
    """The rows, each as often as told, come to this."""
    return [sum(Fraction(number) * row[at] for number, row in zip(often, rows)) for at in range(many)]


def steps(rows, many):
    """The rows by fractions, with leads of 1, each alone at its place, and the places of the leads."""
    left = [[Fraction(number) for number in row] for row in rows]
    done, leads = [], []
    for at in range(many):
        lead = next((row for row in left if row[at] != 0), None)
        if lead is None:
            continue
        left.remove(lead)
        lead = [number / lead[at] for number in lead]
        left = [[number - row[at] * by for number, by in zip(row, lead)] for row in left]
        done = [[number - row[at] * by for number, by in zip(row, lead)] for row in done] + [lead]
        leads.append(at)
    return done, leads


def rank(rows, many):
    return len(steps(rows, many)[0])


def same_sums(rows, others, many):
    """Whether the same lists are sums of the one rows as of the other ones."""
    both = rank(list(rows) + list(others), many)
    return rank(rows, many) == both and rank(others, many) == both


def whole(fractions):
    """The multiple of fractions that has whole numbers and no common measure above 1."""
    bottom = 1
    for one in fractions:
        bottom = bottom * one.denominator // gcd(bottom, one.denominator)
    numbers = [int(one * bottom) for one in fractions]
    common = gcd(*numbers)
    return [number // common for number in numbers]


def only_still(rows, chosen, many):
    """The still list of these places alone, where all such ones are multiples of one, else None."""
    columns = [[row[at] for at in chosen] for row in rows]
    done, leads = steps(columns, len(chosen))
    if len(leads) != len(chosen) - 1:
        return None
    free = next(at for at in range(len(chosen)) if at not in leads)
    found = [Fraction(0)] * many
    found[chosen[free]] = Fraction(1)
    for row, lead in zip(done, leads):
        found[chosen[lead]] = -row[free]
    return found


def searched_lone(rows, many):
    """All lone lists, by a search through all choices of places."""
    told = []
    for size in range(1, many + 1):
        for chosen in combinations(range(many), size):
            if any(all(at in chosen for at in places(one)) for one in told):
                continue
            found = only_still(rows, chosen, many)
            if found is not None and all(found[at] > 0 for at in chosen):
                told.append(whole(found))
    return sorted(told)


def places(numbers):
    return [at for at, number in enumerate(numbers) if number != 0]


def assert_whole(case, told):
    """Ints, none of them a truth."""
    case.assertIs(type(told), list)
    case.assertEqual([type(number) for number in told], [int] * len(told))


def assert_ratio(case, told):
    case.assertIs(type(told), tuple)
    case.assertEqual([type(number) for number in told], [int, int])
    case.assertGreaterEqual(told[1], 1)
    case.assertEqual(gcd(*told), 1)


def assert_shares(case, told, fit, all_lone):
    """What promise 15 asks of the shares of a fit list."""
    case.assertIs(type(told), list)
    case.assertLessEqual(len(told), len(places(fit)))
    for part in told:
        case.assertIs(type(part), tuple)
        share, one = part
        assert_ratio(case, share)
        case.assertGreater(share[0], 0)
        assert_whole(case, one)
        case.assertIn(one, all_lone)
        case.assertLessEqual(set(places(one)), set(places(fit)))
    taken = [one for share, one in told]
    case.assertEqual(len(taken), len({tuple(one) for one in taken}))
    case.assertEqual(together(taken, [Fraction(*share) for share, one in told], len(fit)), fit)
