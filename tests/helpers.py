"""What the tests share: calls that are watched, and slow answers to compare with."""

import copy
import itertools
import unittest

from tilldrawer.errors import TillError

MILLIARD = 1000000000
FAR_ABOVE = (10**6, 10**30, 10**5000)
FAR_BELOW = (-1000, -(10**30), -(10**5000))


class PromiseCase(unittest.TestCase):
    """Calls, each with a check that it keeps to point 1."""

    def given(self, function, *told):
        """What a call gives; it changes nothing handed in, and what it gives is the asker's own."""
        before = copy.deepcopy(told)
        first = function(*told)
        kept = copy.deepcopy(first)
        second = function(*told)
        self.assertEqual(told, before, "handed in and changed")
        self.assertEqual(second, kept, "another answer to the same call")
        self.check_one_place(told, first, second)
        spoil(first)
        self.assertEqual(told, before, "what was handed in is a part of what is given")
        self.assertEqual(second, kept, "two answers share a part")
        self.assertEqual(function(*told), kept, "a later answer was changed by the asker")
        return kept

    def check_one_place(self, *values):
        """No list is in two places of these values, nor in one of them and in another."""
        found = [each for value in values for each in lists_in(value)]
        self.assertEqual(len(found), len({id(each) for each in found}), "a list in two places")

    def refused(self, error, function, *told):
        """A call is refused by just this class, and changes nothing handed in."""
        before = copy.deepcopy(told)
        for caught in (error, TillError, ValueError):
            with self.assertRaises(caught) as context:
                function(*told)
            self.assertIs(type(context.exception), error)
            self.assertEqual(told, before, "handed in and changed")

    def check_pairs(self, pairs):
        """A list of tuples of two whole numbers, rising by value."""
        self.assertIs(type(pairs), list)
        for pair in pairs:
            self.assertIs(type(pair), tuple)
            self.assertEqual([type(part) for part in pair], [int, int])
        values = [value for value, _ in pairs]
        self.assertEqual(values, sorted(set(values)))


def lists_in(value):
    """All lists within a value, itself included."""
    if not isinstance(value, (list, tuple)):
        return []
    inner = [each for part in value for each in lists_in(part)]
    return [value] + inner if isinstance(value, list) else inner


def spoil(value):
    """Change every list within a value."""
    for each in lists_in(value):
        each.clear()
        each.append("spoilt")


def small_tills():
    """Many tills of one to four kinds, of which all ways can be tried."""
    for many, most in ((1, 5), (2, 3), (3, 2)):
        for values in itertools.combinations((1, 2, 3, 4, 5, 7), many):
            for counts in itertools.product(range(most + 1), repeat=many):
                yield list(zip(values, counts))
    for values in ((1, 2, 3, 4), (1, 5, 6, 10), (2, 3, 5, 8), (3, 4, 6, 7)):
        for counts in itertools.product((0, 1, 2), repeat=4):
            yield list(zip(values, counts))


def all_ways(till):
    """For each sum that pieces make, all ways to make it: a count for each kind."""
    found = {}
    for counts in itertools.product(*[range(count + 1) for _, count in till]):
        made = sum(value * many for (value, _), many in zip(till, counts))
        found.setdefault(made, []).append(counts)
    return found


def best_change(till, ways):
    """Of all ways for one sum the change that point 5 promises."""
    # Fewest first; then, from the greatest value on, the one with more.
    best = min(ways, key=lambda counts: (sum(counts), [-many for many in reversed(counts)]))
    return [(value, many) for (value, _), many in zip(till, best) if many > 0]


def all_deals(till, purse):
    """For each worth that ways to deal have, all of these ways: a number for each kind of the till."""
    held = dict(purse)
    found = {}
    spans = [range(-count, held.get(value, 0) + 1) for value, count in till]
    for numbers in itertools.product(*spans):
        made = sum(value * number for (value, _), number in zip(till, numbers))
        found.setdefault(made, []).append(numbers)
    return found


def best_deal(till, ways):
    """Of all ways of one worth the deal that point 12 promises."""
    # Fewest first; then, from the greatest value on, the one with the greater number.
    best = min(ways, key=lambda numbers: (way_pieces(numbers), [-number for number in reversed(numbers)]))
    handed = [(value, number) for (value, _), number in zip(till, best) if number > 0]
    back = [(value, -number) for (value, _), number in zip(till, best) if number < 0]
    return handed, back


def way_pieces(numbers):
    """How many pieces change hands by a way to deal."""
    return sum(abs(number) for number in numbers)


def single_pieces(pairs):
    """The value of each piece, one behind the other."""
    return [value for value, count in pairs for _ in range(count)]


def slow_table(till, most):
    """The table by trying, kind by kind, each count that may be given."""
    rows = [[0] + [None] * most]
    for value, count in till:
        row = []
        for due in range(most + 1):
            found = []
            for many in range(min(count, due // value) + 1):
                rest = rows[-1][due - many * value]
                if rest is not None:
                    found.append(rest + many)
            row.append(min(found, default=None))
        rows.append(row)
    return rows
