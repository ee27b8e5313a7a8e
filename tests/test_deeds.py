"""Points 1, 6, 7 and 8: tilldrawer/deeds.py."""

import itertools
import unittest

from tests.helpers import FAR_ABOVE, FAR_BELOW, MILLIARD, PromiseCase, all_ways, best_change
from tilldrawer import deeds as module
from tilldrawer.deeds import brought, fetched, kind_in, kind_out, paid
from tilldrawer.errors import (
    NoChange,
    NoCount,
    NoKind,
    NoSum,
    NoTill,
    StillHeld,
    TillError,
    TooFew,
    TooLittle,
    Twice,
)
from tilldrawer.pieces import till_of, worth

TILL = [(1, 3), (5, 2), (10, 0), (20, 1)]
COINS = (1, 2, 5, 10, 20, 50, 100, 200, 500, 1000)
EMPTY = [(value, 0) for value in COINS]
NO_VALUES = (0, -1, 1001, 1002) + FAR_BELOW + FAR_ABOVE
NO_COUNTS = (-1, -2, MILLIARD + 1, MILLIARD + 2) + FAR_BELOW + (10**30, 10**5000)
NO_SUMS = (-1, -2, 1001, 1002, 1500) + FAR_BELOW + FAR_ABOVE


def slow_paid(till, price, values):
    """What a price paid gives by point 6, by trying all ways; or the class that refuses it."""
    filled = [(value, count + values.count(value)) for value, count in till]
    over = sum(values) - price
    if over < 0:
        return TooLittle
    ways = all_ways(filled)
    if over not in ways:
        return NoChange
    change = best_change(filled, ways[over])
    given = dict(change)
    return [(value, count - given.get(value, 0)) for value, count in filled], change


class Interface(unittest.TestCase):
    def test_each_function_is_defined_in_the_file_that_lists_it(self):
        for name in ("paid", "brought", "fetched", "kind_in", "kind_out"):
            self.assertEqual(getattr(module, name).__module__, "tilldrawer.deeds")

    def test_the_arguments_have_the_names_that_are_listed(self):
        till = [(2, 2), (3, 0)]
        self.assertEqual(paid(till=till, price=1, values=[3]), ([(2, 1), (3, 1)], [(2, 1)]))
        self.assertEqual(brought(till=till, value=3, count=4), [(2, 2), (3, 4)])
        self.assertEqual(fetched(till=till, value=2, count=1), [(2, 1), (3, 0)])
        self.assertEqual(kind_in(till=till, value=4), [(2, 2), (3, 0), (4, 0)])
        self.assertEqual(kind_out(till=till, value=3), [(2, 2)])


class Paid(PromiseCase):
    def check(self, till, price, values, behind, change):
        told = self.given(paid, till, price, values)
        self.assertIs(type(told), tuple)
        self.assertEqual(told, (behind, change))
        self.check_pairs(told[0])
        self.check_pairs(told[1])

    def test_ordinary_prices(self):
        self.check(TILL, 13, [20], [(1, 1), (5, 1), (10, 0), (20, 2)], [(1, 2), (5, 1)])
        self.check(TILL, 6, [10, 1], [(1, 4), (5, 1), (10, 1), (20, 1)], [(5, 1)])
        self.check(TILL, 30, [20, 20], [(1, 3), (5, 0), (10, 0), (20, 3)], [(5, 2)])
        self.check(TILL, 40, [20, 20, 20], [(1, 3), (5, 2), (10, 0), (20, 3)], [(20, 1)])

    def test_the_order_of_the_pieces_does_not_matter(self):
        for order in itertools.permutations([20, 1, 5, 1]):
            behind = [(1, 4), (5, 0), (10, 0), (20, 2)]
            self.check(TILL, 11, list(order), behind, [(1, 1), (5, 3)])

    def test_exact_payment(self):
        self.check(TILL, 26, [1, 5, 20], [(1, 4), (5, 3), (10, 0), (20, 2)], [])
        self.check(TILL, 20, [10, 10], [(1, 3), (5, 2), (10, 2), (20, 1)], [])
        self.check(EMPTY, 1000, [1000], EMPTY[:-1] + [(1000, 1)], [])
        self.check([(3, 0)], 3, [3], [(3, 1)], [])

    def test_the_price_0(self):
        self.check(TILL, 0, [], TILL, [])
        self.check(EMPTY, 0, [], EMPTY, [])
        self.check([(7, 0)], 0, [7], [(7, 0)], [(7, 1)])
        self.check([(5, 0), (10, 1)], 0, [5, 5], [(5, 2), (10, 0)], [(10, 1)])

    def test_the_price_1000(self):
        self.check([(1000, 0)], 1000, [1000], [(1000, 1)], [])
        self.check([(500, 1), (1000, 4)], 1000, [500, 1000], [(500, 1), (1000, 5)], [(500, 1)])
        self.check([(20, 0)], 1000, [20] * 50, [(20, 50)], [])

    def test_change_of_pieces_that_were_just_paid(self):
        self.check([(5, 0), (20, 0)], 20, [5, 5, 20], [(5, 0), (20, 1)], [(5, 2)])
        self.check([(3, 0), (4, 1)], 4, [3, 3, 4], [(3, 0), (4, 2)], [(3, 2)])
        # One piece was there, the other was paid.
        self.check([(2, 1), (7, 0)], 5, [2, 7], [(2, 0), (7, 1)], [(2, 2)])

    def test_the_change_takes_the_fewest_pieces_and_of_several_ways_the_promised_one(self):
        self.check([(1, 9), (3, 9), (4, 9), (10, 0)], 4, [10], [(1, 9), (3, 7), (4, 9), (10, 1)], [(3, 2)])
        self.check([(1, 1), (2, 2), (3, 1), (9, 0)], 5, [9], [(1, 0), (2, 2), (3, 0), (9, 1)], [(1, 1), (3, 1)])

    def test_up_to_60_pieces(self):
        self.check([(1, 0)], 59, [1] * 59, [(1, 59)], [])
        self.check([(1, 0)], 60, [1] * 60, [(1, 60)], [])
        self.check([(1, 0), (2, 5)], 50, [1] * 60, [(1, 60), (2, 0)], [(2, 5)])
        self.check([(1, 0), (30, 1)], 30, [1] * 60, [(1, 60), (30, 0)], [(30, 1)])
        self.refused(NoCount, paid, [(1, 0)], 61, [1] * 61)
        self.refused(NoCount, paid, [(1, 0)], 60, [1] * 61)
        self.refused(NoCount, paid, [(1, 0)], 0, [1] * 500)

    def test_more_than_60_pieces_are_refused_whatever_they_are(self):
        for values in ([7] * 61, [0] * 61, [-1] * 61, [10**30] * 61, [1] * 60 + [2], [2] + [1] * 60):
            self.refused(NoCount, paid, [(1, 0)], 61, values)
        self.refused(NoCount, paid, [(1, MILLIARD)], 61, [1] * 61)
        self.refused(NoCount, paid, [(1000, 0)], 0, [1000] * 61)
        self.refused(NoCount, paid, [(1, 0)], 1000, [1] * 61)

    def test_what_is_no_price(self):
        for price in NO_SUMS:
            for values in ([], [1], [20] * 60, [5] * 61, [0], [7], [10**30]):
                self.refused(NoSum, paid, TILL, price, values)
            self.refused(NoSum, paid, [(1, MILLIARD)], price, [1])

    def test_a_value_that_is_no_kind_of_the_till(self):
        for value in (2, 4, 6, 11, 19, 21, 1000) + NO_VALUES:
            self.refused(NoKind, paid, TILL, 0, [value])
            self.refused(NoKind, paid, TILL, 5, [5, value])
            self.refused(NoKind, paid, TILL, 5, [value, 5])
            # Ahead of TooLittle.
            self.refused(NoKind, paid, TILL, 1000, [value])

    def test_up_to_a_milliard_of_a_kind(self):
        self.check([(1, MILLIARD - 1)], 1, [1], [(1, MILLIARD)], [])
        self.check([(1, MILLIARD - 2)], 2, [1, 1], [(1, MILLIARD)], [])
        self.check([(1, MILLIARD), (5, 0)], 4, [5], [(1, MILLIARD - 1), (5, 1)], [(1, 1)])
        self.refused(NoCount, paid, [(1, MILLIARD)], 1, [1])
        self.refused(NoCount, paid, [(1, MILLIARD - 1)], 2, [1, 1])
        self.refused(NoCount, paid, [(1, MILLIARD - 1), (5, 0)], 7, [1, 5, 1])

    def test_a_milliard_is_passed_even_if_the_change_would_take_the_pieces_out(self):
        self.refused(NoCount, paid, [(1, MILLIARD)], 0, [1])
        self.refused(NoCount, paid, [(1, MILLIARD), (5, 0)], 5, [5, 1])

    def test_too_many_of_a_kind_is_ahead_of_too_little(self):
        self.refused(NoCount, paid, [(1, MILLIARD)], 1000, [1])

    def test_of_two_faulty_pieces_the_first_decides(self):
        till = [(1, MILLIARD), (5, 0), (10, MILLIARD - 1)]
        self.refused(NoCount, paid, till, 3, [1, 2])
        self.refused(NoKind, paid, till, 3, [2, 1])
        self.refused(NoCount, paid, till, 3, [5, 10, 10, 0])
        self.refused(NoKind, paid, till, 3, [5, 10, 0, 10])
        self.refused(NoKind, paid, till, 3, [-1, 10, 10])

    def test_too_little(self):
        self.refused(TooLittle, paid, TILL, 1, [])
        self.refused(TooLittle, paid, TILL, 21, [20])
        self.refused(TooLittle, paid, TILL, 1000, [20] * 49 + [10, 5, 1, 1, 1, 1])
        self.refused(TooLittle, paid, EMPTY, 1000, [500, 200, 200, 50, 20, 20, 5, 2, 2])
        self.refused(TooLittle, paid, [(5, 2)], 1000, [5])

    def test_over_by_1000_and_by_1001(self):
        self.check([(1, 5), (1000, 5)], 0, [1000], [(1, 5), (1000, 5)], [(1000, 1)])
        self.check([(1, 5), (1000, 5)], 1000, [1000, 1000], [(1, 5), (1000, 6)], [(1000, 1)])
        self.check([(1, 5), (1000, 5)], 1, [1000, 1], [(1, 6), (1000, 5)], [(1000, 1)])
        self.refused(NoSum, paid, [(1, 5), (1000, 5)], 0, [1000, 1])
        self.refused(NoSum, paid, [(1, 5), (1000, 5)], 999, [1000, 1000])
        self.refused(NoSum, paid, [(1, 5), (1000, 5)], 1000, [1000, 1, 1000])
        self.refused(NoSum, paid, [(1000, 0)], 1000, [1000] * 60)

    def test_no_sum_is_ahead_of_no_change(self):
        self.refused(NoSum, paid, [(1000, 0)], 999, [1000, 1000])
        self.refused(NoChange, paid, [(1000, 0)], 999, [1000])

    def test_no_change(self):
        self.refused(NoChange, paid, [(20, 5)], 1, [20])
        self.refused(NoChange, paid, TILL, 11, [20, 10])
        self.refused(NoChange, paid, EMPTY, 19, [20])
        self.refused(NoChange, paid, [(2, 9), (5, 0)], 4, [5])
        self.refused(NoChange, paid, [(1, 0), (5, 0)], 3, [5])

    def test_all_ways_of_small_tills(self):
        for till in (
            [(1, 0), (2, 0), (3, 0)],
            [(1, 1), (2, 2), (3, 1)],
            [(1, 2), (3, 1), (4, 1)],
            [(2, 1), (3, 0), (7, 2)],
            [(1, 1), (4, 2), (5, 1), (8, 0)],
        ):
            kinds = [value for value, _ in till]
            for many in range(5):
                for values in itertools.combinations_with_replacement(kinds, many):
                    self.compare(till, list(values))

    def compare(self, till, values):
        for price in range(sum(values) + 2):
            expected = slow_paid(till, price, values)
            try:
                told = paid(till, price, values)
            except TillError as refusal:
                told = type(refusal)
            self.assertEqual(told, expected, (till, price, values))


class Brought(PromiseCase):
    def check(self, till, value, count, behind):
        told = self.given(brought, till, value, count)
        self.assertEqual(told, behind)
        self.check_pairs(told)

    def test_each_kind(self):
        self.check(TILL, 1, 4, [(1, 7), (5, 2), (10, 0), (20, 1)])
        self.check(TILL, 5, 1, [(1, 3), (5, 3), (10, 0), (20, 1)])
        self.check(TILL, 10, 6, [(1, 3), (5, 2), (10, 6), (20, 1)])
        self.check(TILL, 20, 1000, [(1, 3), (5, 2), (10, 0), (20, 1001)])
        self.check([(1000, 0)], 1000, 1, [(1000, 1)])

    def test_a_count_of_0(self):
        for value, _ in TILL:
            self.check(TILL, value, 0, TILL)
        self.check([(1, MILLIARD)], 1, 0, [(1, MILLIARD)])

    def test_up_to_a_milliard_in_all(self):
        self.check([(1, 0)], 1, MILLIARD, [(1, MILLIARD)])
        self.check([(1, 0)], 1, MILLIARD - 1, [(1, MILLIARD - 1)])
        self.check(TILL, 5, MILLIARD - 2, [(1, 3), (5, MILLIARD), (10, 0), (20, 1)])
        self.check([(1, MILLIARD - 1), (2, MILLIARD)], 1, 1, [(1, MILLIARD), (2, MILLIARD)])
        self.refused(NoCount, brought, TILL, 5, MILLIARD - 1)
        self.refused(NoCount, brought, TILL, 5, MILLIARD)
        self.refused(NoCount, brought, [(1, MILLIARD)], 1, 1)
        self.refused(NoCount, brought, [(1, MILLIARD)], 1, MILLIARD)
        self.refused(NoCount, brought, [(1, 1)], 1, MILLIARD)

    def test_what_is_no_count(self):
        for count in NO_COUNTS:
            for value, _ in TILL:
                self.refused(NoCount, brought, TILL, value, count)
            # Refused although what would lie there is a count.
            self.refused(NoCount, brought, [(1, MILLIARD)], 1, count)

    def test_a_kind_that_the_till_has_not(self):
        for value in (2, 4, 6, 21, 1000) + NO_VALUES:
            for count in (0, 1, 10**6, MILLIARD) + NO_COUNTS:
                self.refused(NoKind, brought, TILL, value, count)


class Fetched(PromiseCase):
    def check(self, till, value, count, behind):
        told = self.given(fetched, till, value, count)
        self.assertEqual(told, behind)
        self.check_pairs(told)

    def test_each_kind(self):
        self.check(TILL, 1, 2, [(1, 1), (5, 2), (10, 0), (20, 1)])
        self.check(TILL, 5, 1, [(1, 3), (5, 1), (10, 0), (20, 1)])
        self.check(TILL, 20, 1, [(1, 3), (5, 2), (10, 0), (20, 0)])
        self.check([(1000, 7)], 1000, 3, [(1000, 4)])

    def test_a_count_of_0(self):
        for value, _ in TILL:
            self.check(TILL, value, 0, TILL)

    def test_all_that_lies_there_and_one_more(self):
        for value, count in TILL:
            behind = [(held, 0 if held == value else lies) for held, lies in TILL]
            self.check(TILL, value, count, behind)
            self.refused(TooFew, fetched, TILL, value, count + 1)
            self.refused(TooFew, fetched, TILL, value, MILLIARD)
        self.check([(3, MILLIARD)], 3, MILLIARD, [(3, 0)])
        self.check([(3, MILLIARD)], 3, MILLIARD - 1, [(3, 1)])
        self.refused(TooFew, fetched, [(3, MILLIARD - 1)], 3, MILLIARD)

    def test_what_is_no_count(self):
        for count in NO_COUNTS:
            for value, _ in TILL:
                self.refused(NoCount, fetched, TILL, value, count)
            self.refused(NoCount, fetched, [(1, MILLIARD)], 1, count)

    def test_a_kind_that_the_till_has_not(self):
        for value in (2, 4, 6, 21, 1000) + NO_VALUES:
            for count in (0, 1, 10**6, MILLIARD) + NO_COUNTS:
                self.refused(NoKind, fetched, TILL, value, count)

    def test_what_is_brought_is_fetched_again(self):
        for value, _ in TILL:
            for count in (0, 1, 5, 1000):
                self.assertEqual(fetched(brought(TILL, value, count), value, count), TILL)


class KindIn(PromiseCase):
    def check(self, till, value, behind):
        told = self.given(kind_in, till, value)
        self.assertEqual(told, behind)
        self.check_pairs(told)

    def test_below_between_and_beyond_the_others(self):
        self.check([(5, 2), (10, 1)], 1, [(1, 0), (5, 2), (10, 1)])
        self.check([(5, 2), (10, 1)], 4, [(4, 0), (5, 2), (10, 1)])
        self.check([(5, 2), (10, 1)], 6, [(5, 2), (6, 0), (10, 1)])
        self.check([(5, 2), (10, 1)], 11, [(5, 2), (10, 1), (11, 0)])
        self.check([(5, 2), (10, 1)], 1000, [(5, 2), (10, 1), (1000, 0)])
        self.check([(1000, MILLIARD)], 1, [(1, 0), (1000, MILLIARD)])
        self.check([(1, 0)], 1000, [(1, 0), (1000, 0)])

    def test_kinds_that_come_in_one_behind_the_other(self):
        for order in ((4, 1, 3, 2), (2, 3, 1, 4), (10, 1, 9, 5)):
            till = [(7, 7)]
            for value in order:
                till = kind_in(till, value)
            self.assertEqual(till, till_of([(7, 7)] + [(value, 0) for value in order]))

    def test_values_that_no_kind_can_have(self):
        for value in NO_VALUES:
            self.refused(NoKind, kind_in, TILL, value)
            # Ahead of NoTill.
            self.refused(NoKind, kind_in, EMPTY, value)

    def test_a_kind_that_is_there(self):
        for value, _ in TILL:
            self.refused(Twice, kind_in, TILL, value)
        for value in COINS:
            # Ahead of NoTill.
            self.refused(Twice, kind_in, EMPTY, value)

    def test_the_tenth_and_the_eleventh(self):
        nine = EMPTY[:9]
        self.check(nine, 1000, EMPTY)
        self.check(nine, 3, sorted(nine + [(3, 0)]))
        for value in (3, 4, 999):
            self.refused(NoTill, kind_in, EMPTY, value)
        self.refused(NoTill, kind_in, [(value, 1) for value in range(2, 12)], 1)
        self.refused(NoTill, kind_in, [(value, 1) for value in range(2, 12)], 1000)


class KindOut(PromiseCase):
    def check(self, till, value, behind):
        told = self.given(kind_out, till, value)
        self.assertEqual(told, behind)
        self.check_pairs(told)

    def test_first_between_and_last(self):
        self.check([(1, 0), (5, 2), (10, 4)], 1, [(5, 2), (10, 4)])
        self.check([(1, 3), (5, 0), (10, 4)], 5, [(1, 3), (10, 4)])
        self.check([(1, 3), (5, 2), (10, 0)], 10, [(1, 3), (5, 2)])
        self.check([(1, 0), (2, 0)], 1, [(2, 0)])
        self.check([(1, 0), (2, 0)], 2, [(1, 0)])
        for at, value in enumerate(COINS):
            self.check(EMPTY, value, EMPTY[:at] + EMPTY[at + 1:])

    def test_a_kind_that_the_till_has_not(self):
        for value in (2, 4, 6, 21, 1000) + NO_VALUES:
            self.refused(NoKind, kind_out, TILL, value)
            # Ahead of NoTill and of StillHeld.
            self.refused(NoKind, kind_out, [(5, 0)], value)
            self.refused(NoKind, kind_out, [(5, 1)], value)

    def test_a_kind_with_pieces(self):
        for value in (1, 5, 20):
            self.refused(StillHeld, kind_out, TILL, value)
        self.refused(StillHeld, kind_out, [(1, 0), (2, 1)], 2)
        self.refused(StillHeld, kind_out, [(1, 0), (2, MILLIARD)], 2)

    def test_the_last_one(self):
        for value in (1, 5, 1000):
            self.refused(NoTill, kind_out, [(value, 0)], value)
            # StillHeld is ahead of it.
            self.refused(StillHeld, kind_out, [(value, 1)], value)
            self.refused(StillHeld, kind_out, [(value, MILLIARD)], value)

    def test_what_comes_in_goes_out_again(self):
        for value in (2, 15, 1000):
            self.assertEqual(kind_out(kind_in(TILL, value), value), TILL)


class Kept(unittest.TestCase):
    def test_no_worth_is_lost_or_found_by_a_payment(self):
        till = TILL
        for price, values in ((13, [20]), (4, [5]), (20, [20, 5]), (2, [1, 1, 1]), (5, [5, 10])):
            behind, change = paid(till, price, values)
            self.assertEqual(worth(behind), worth(till) + price)
            self.assertEqual(worth(change), sum(values) - price)
            till = behind


if __name__ == "__main__":
    unittest.main()
