"""Points 1, 2 and 3: tilldrawer/pieces.py."""

import itertools
import unittest

from tests.helpers import FAR_ABOVE, FAR_BELOW, MILLIARD, PromiseCase
from tilldrawer import pieces as module
from tilldrawer.errors import NoCount, NoKind, NoTill, Twice
from tilldrawer.pieces import count_of, pieces, till_of, worth

ONE_KIND = [(5, 3)]
TEN_KINDS = [
    (1, 0), (2, 7), (5, 1), (10, 0), (20, 4),
    (50, 2), (100, 1), (200, 3), (500, MILLIARD), (1000, MILLIARD),
]


class Interface(unittest.TestCase):
    def test_each_function_is_defined_in_the_file_that_lists_it(self):
        for name in ("till_of", "worth", "pieces", "count_of"):
            self.assertEqual(getattr(module, name).__module__, "tilldrawer.pieces")

    def test_the_arguments_have_the_names_that_are_listed(self):
        self.assertEqual(till_of(pairs=[(5, 3)]), [(5, 3)])
        self.assertEqual(worth(till=[(5, 3)]), 15)
        self.assertEqual(pieces(till=[(5, 3)]), 3)
        self.assertEqual(count_of(till=[(5, 3)], value=5), 3)


class Worth(PromiseCase):
    def check(self, pairs, expected):
        told = self.given(worth, pairs)
        self.assertEqual(told, expected)
        self.assertIs(type(told), int)

    def test_tills_of_one_kind(self):
        self.check(ONE_KIND, 15)
        self.check([(1, 0)], 0)
        self.check([(1, 1)], 1)
        self.check([(1000, 0)], 0)
        self.check([(1, MILLIARD)], MILLIARD)
        self.check([(1000, MILLIARD)], 1000 * MILLIARD)

    def test_a_till_of_ten_kinds(self):
        small = 2 * 7 + 5 + 20 * 4 + 50 * 2 + 100 + 200 * 3
        self.check(TEN_KINDS, small + 500 * MILLIARD + 1000 * MILLIARD)
        self.check([(value, MILLIARD) for value in range(991, 1001)], 9955 * MILLIARD)
        self.check([(value, 0) for value in range(1, 11)], 0)

    def test_purses_and_changes(self):
        self.check([], 0)
        self.check([(2, 0), (7, 4)], 28)
        self.check([(1, 2), (20, 1), (500, 3)], 1522)


class Pieces(PromiseCase):
    def check(self, pairs, expected):
        told = self.given(pieces, pairs)
        self.assertEqual(told, expected)
        self.assertIs(type(told), int)

    def test_tills_of_one_kind(self):
        self.check(ONE_KIND, 3)
        self.check([(1, 0)], 0)
        self.check([(1000, 1)], 1)
        self.check([(1000, MILLIARD)], MILLIARD)

    def test_a_till_of_ten_kinds(self):
        self.check(TEN_KINDS, 7 + 1 + 4 + 2 + 1 + 3 + 2 * MILLIARD)
        self.check([(value, MILLIARD) for value in range(991, 1001)], 10 * MILLIARD)
        self.check([(value, 0) for value in range(1, 11)], 0)

    def test_purses_and_changes(self):
        self.check([], 0)
        self.check([(2, 0), (7, 4)], 4)
        self.check([(1, 2), (20, 1), (500, 3)], 6)


class CountOf(PromiseCase):
    def test_each_kind_of_tills_and_purses(self):
        for till in (ONE_KIND, TEN_KINDS, [(3, 0)], [(3, MILLIARD)], [(2, 0), (7, 4), (9, 1)]):
            for value, count in till:
                with self.subTest(till=till, value=value):
                    told = self.given(count_of, till, value)
                    self.assertEqual(told, count)
                    self.assertIs(type(told), int)

    def test_a_value_that_is_not_there_is_refused(self):
        self.refused(NoKind, count_of, ONE_KIND, 4)
        self.refused(NoKind, count_of, ONE_KIND, 6)
        for value in range(0, 1002):
            if value not in [held for held, _ in TEN_KINDS]:
                self.refused(NoKind, count_of, TEN_KINDS, value)

    def test_a_count_is_no_value(self):
        self.refused(NoKind, count_of, [(5, 3), (7, 2)], 3)
        self.refused(NoKind, count_of, [(5, 3), (7, 2)], 2)

    def test_a_value_far_off_is_refused(self):
        for value in FAR_BELOW + FAR_ABOVE:
            self.refused(NoKind, count_of, ONE_KIND, value)
            self.refused(NoKind, count_of, [(1, MILLIARD), (1000, MILLIARD)], value)

    def test_any_value_of_no_kinds_is_refused(self):
        for value in (-1, 0, 1, 5, 1000, 1001) + FAR_BELOW + FAR_ABOVE:
            self.refused(NoKind, count_of, [], value)


class TillOf(PromiseCase):
    def check(self, pairs, expected):
        till = self.given(till_of, pairs)
        self.check_pairs(till)
        self.assertEqual(till, expected)

    def test_pairs_in_any_order_give_a_rising_till(self):
        till = [(1, 9), (5, 0), (20, 4), (100, 1)]
        for pairs in itertools.permutations(till):
            self.check(list(pairs), till)

    def test_pairs_that_rise_or_fall_already(self):
        self.check(list(TEN_KINDS), TEN_KINDS)
        self.check(TEN_KINDS[::-1], TEN_KINDS)

    def test_one_to_ten_pairs_are_taken(self):
        for many in range(1, 11):
            till = [(value, value % 3) for value in range(1, many + 1)]
            self.check(till[::-1], till)

    def test_too_few_or_too_many_are_refused(self):
        self.refused(NoTill, till_of, [])
        for many in (11, 12, 100, 1500):
            self.refused(NoTill, till_of, [(value, 1) for value in range(1, many + 1)])

    def test_the_number_of_pairs_is_looked_at_before_what_stands_in_them(self):
        for pair in ((0, 1), (1001, 1), (5, 1), (5, -1), (5, MILLIARD + 1), (0, -1)):
            self.refused(NoTill, till_of, [pair] * 11)
            self.refused(NoTill, till_of, [(value, 1) for value in range(1, 11)] + [pair])

    def test_the_edges_of_values(self):
        self.check([(1, 2)], [(1, 2)])
        self.check([(1000, 2)], [(1000, 2)])
        self.check([(1000, 2), (1, 3)], [(1, 3), (1000, 2)])
        for value in (0, 1001, -1) + FAR_BELOW + FAR_ABOVE:
            self.refused(NoKind, till_of, [(value, 2)])
            self.refused(NoKind, till_of, [(4, 2), (value, 2), (7, 2)])
            self.refused(NoKind, till_of, [(4, 2), (7, 2), (value, 2)])

    def test_the_edges_of_counts(self):
        self.check([(5, 0)], [(5, 0)])
        self.check([(5, MILLIARD)], [(5, MILLIARD)])
        self.check([(7, MILLIARD), (5, 0)], [(5, 0), (7, MILLIARD)])
        for count in (-1, MILLIARD + 1) + FAR_BELOW + (10**10, 10**30, 10**5000):
            self.refused(NoCount, till_of, [(5, count)])
            self.refused(NoCount, till_of, [(4, 2), (5, count), (7, 2)])
            self.refused(NoCount, till_of, [(4, 2), (7, 2), (5, count)])

    def test_a_value_that_stands_ahead_is_refused(self):
        self.refused(Twice, till_of, [(5, 1), (5, 2)])
        self.refused(Twice, till_of, [(5, 1), (5, 1)])
        self.refused(Twice, till_of, [(5, 0), (5, 0)])
        self.refused(Twice, till_of, [(5, 1), (3, 1), (5, 2)])
        self.refused(Twice, till_of, [(1000, 1), (1, 1), (3, 1), (1, 1)])
        nine = [(value, 1) for value in range(1, 10)]
        for value in range(1, 10):
            self.refused(Twice, till_of, nine + [(value, 4)])

    def test_the_same_count_of_two_kinds_is_not_twice(self):
        self.check([(5, 1), (3, 1)], [(3, 1), (5, 1)])
        self.check([(5, 3), (3, 5)], [(3, 5), (5, 3)])

    def test_the_first_pair_with_a_fault_decides(self):
        faults = (
            (NoKind, (0, 1)), (NoKind, (1001, 1)), (Twice, (5, 1)),
            (NoCount, (7, -1)), (NoCount, (8, MILLIARD + 1)),
        )
        for (error, pair), (_, later) in itertools.product(faults, repeat=2):
            self.refused(error, till_of, [(5, 1), pair, later])
            self.refused(error, till_of, [(5, 1), (900, 2), pair, (2, 2), later, (3, 3)])

    def test_the_order_handed_in_counts_not_the_order_of_values(self):
        self.refused(NoCount, till_of, [(9, -1), (0, 1)])
        self.refused(NoKind, till_of, [(1001, 1), (1, -1)])
        self.refused(Twice, till_of, [(9, 1), (9, 2), (3, -1)])
        self.refused(NoCount, till_of, [(9, 1), (3, -1), (9, 2)])

    def test_in_one_pair_the_value_decides_then_twice_then_the_count(self):
        for value, count in itertools.product((-1, 0, 1001), (-1, MILLIARD + 1)):
            self.refused(NoKind, till_of, [(value, count)])
            self.refused(NoKind, till_of, [(5, 1), (value, count)])
        for count in (-1, MILLIARD + 1):
            self.refused(Twice, till_of, [(5, 1), (5, count)])
            self.refused(Twice, till_of, [(5, 1), (2, 2), (5, count), (0, 1)])

    def test_the_first_of_two_with_a_wrong_count_is_refused_for_its_count(self):
        self.refused(NoCount, till_of, [(5, -1), (5, 1)])
        self.refused(NoCount, till_of, [(5, MILLIARD + 1), (5, 1)])


if __name__ == "__main__":
    unittest.main()
