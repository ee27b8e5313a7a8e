"""Points 1, 10, 11 and 12: tilldrawer/deals.py."""

import itertools
import unittest

from tests.helpers import (
    FAR_ABOVE,
    FAR_BELOW,
    MILLIARD,
    PromiseCase,
    all_deals,
    best_deal,
    single_pieces,
    way_pieces,
)
from tilldrawer import deals as module
from tilldrawer.deals import deal, scales
from tilldrawer.deeds import paid
from tilldrawer.errors import NoChange, NoKind, NoSum, TillError
from tilldrawer.pieces import count_of, pieces, worth

TILL = [(1, 2), (3, 1), (4, 1)]
COINS = (1, 2, 5, 10, 20, 50, 100, 200, 500, 1000)
EMPTY = [(value, 0) for value in COINS]
NO_VALUES = (0, -1, 1001) + FAR_BELOW + FAR_ABOVE
NO_SUMS = (-1, -2, 1001, 1002, 1500) + FAR_BELOW + FAR_ABOVE

# Tills and purses with more ways than can be tried.
LARGER = (
    ([(1, 9), (5, 9), (10, 9), (50, 4)], [(1, 3), (5, 7), (10, 2), (50, 9)]),
    ([(1, 0), (2, 40), (7, 30), (9, 20)], [(1, 60), (7, 30), (9, 11)]),
    ([(value, value % 4) for value in range(3, 13)], [(value, 5) for value in range(3, 13, 2)]),
    ([(2, 3), (5, 0), (6, 8), (11, 2)], [(2, 100), (5, 33), (6, 1)]),
    ([(1, 700)], [(1, 800)]),
    ([(value, 1) for value in range(91, 101)], [(93, 2), (99, 3)]),
)


def small_cases():
    """Many tills and purses of which all ways to deal can be tried."""
    for values in ((1,), (3,), (1, 2), (2, 3), (3, 5)):
        for counts in itertools.product((0, 1, 3), repeat=len(values)):
            for held in itertools.product((0, 1, 2), repeat=len(values)):
                yield list(zip(values, counts)), list(zip(values, held))
    for values in ((1, 2, 3), (1, 3, 4), (2, 5, 7), (4, 6, 9)):
        for counts in itertools.product((0, 2), repeat=3):
            for held in itertools.product((0, 1, 2), repeat=3):
                # Kinds of which none are held may stand in a purse or not.
                yield list(zip(values, counts)), [pair for pair in zip(values, held) if pair[1] != 0]
    for till, purse in (
        ([(1, 1), (2, 1), (3, 1), (4, 1)], [(1, 1), (2, 1), (3, 1), (4, 1)]),
        ([(1, 2), (5, 1), (6, 2), (10, 1)], [(5, 2), (10, 2)]),
        ([(2, 1), (3, 2), (5, 0), (8, 1)], [(2, 2), (3, 0), (8, 2)]),
    ):
        yield till, purse


def slow_scales(till, purse):
    """The scales by trying, kind by kind, each number that may change hands."""
    held = dict(purse)
    least = {0: 0}
    found = [least]
    for value, count in till:
        wider = {}
        for number in range(-count, held.get(value, 0) + 1):
            for made, many in least.items():
                place = made + number * value
                wider[place] = min(wider.get(place, many + abs(number)), many + abs(number))
        least = wider
        found.append(least)
    places = range(-worth(till), worth(purse) + 1)
    return [[row.get(place) for place in places] for row in found]


class Interface(unittest.TestCase):
    def test_each_function_is_defined_in_the_file_that_lists_it(self):
        for name in ("scales", "deal"):
            self.assertEqual(getattr(module, name).__module__, "tilldrawer.deals")

    def test_the_arguments_have_the_names_that_are_listed(self):
        self.assertEqual(scales(till=[(2, 1)], purse=[]), [[None, None, 0], [1, None, 0]])
        self.assertEqual(deal(till=[(2, 1), (5, 0)], purse=[(5, 1)], price=3), ([(5, 1)], [(2, 1)]))


class Purses(PromiseCase):
    def test_an_empty_purse(self):
        self.assertEqual(self.given(scales, [(2, 1), (3, 1)], []), [
            [None, None, None, None, None, 0],
            [None, None, None, 1, None, 0],
            [2, None, 1, 1, None, 0],
        ])
        self.assertEqual(self.given(deal, TILL, [], 0), ([], []))
        self.refused(NoChange, deal, TILL, [], 1)
        self.assertEqual(self.given(scales, EMPTY, []), [[0]] * 11)

    def test_a_purse_of_all_kinds_and_of_some(self):
        till = [(1, 1), (3, 1)]
        self.assertEqual(self.given(scales, till, [(1, 1), (3, 1)]), [
            [None, None, None, None, 0, None, None, None, None],
            [None, None, None, 1, 0, 1, None, None, None],
            [2, 1, 2, 1, 0, 1, 2, 1, 2],
        ])
        self.assertEqual(self.given(scales, till, [(3, 1)]), [
            [None, None, None, None, 0, None, None, None],
            [None, None, None, 1, 0, None, None, None],
            [2, 1, None, 1, 0, None, 2, 1],
        ])
        self.assertEqual(self.given(scales, till, [(1, 1)]), [
            [None, None, None, None, 0, None],
            [None, None, None, 1, 0, 1],
            [2, 1, 2, 1, 0, 1],
        ])

    def test_a_kind_of_which_none_are_held_is_as_one_that_does_not_stand_there(self):
        for till, purse in ((TILL, [(3, 2)]), (EMPTY, [(50, 1)]), ([(2, 1), (7, 1)], [])):
            padded = [(value, dict(purse).get(value, 0)) for value, _ in till]
            self.assertEqual(self.given(scales, till, padded), self.given(scales, till, purse))
            self.assertEqual(deal(till, padded, 0), ([], []))

    def test_a_kind_that_the_till_has_not(self):
        for value in (2, 5, 1000) + NO_VALUES:
            for count in (0, 1, MILLIARD):
                for purse in (
                    [(value, count)],
                    [(1, 1), (value, count)],
                    [(value, count), (4, 1)],
                    [(1, 0), (3, 0), (value, count)],
                ):
                    self.refused(NoKind, scales, TILL, purse)
                    self.refused(NoKind, deal, TILL, purse, 0)
                    self.refused(NoKind, deal, TILL, purse, 1000)

    def test_a_purse_of_more_pairs_than_a_till_may_have(self):
        for many in (11, 12, 100, 1000):
            for count in (0, 1):
                purse = [(value, count) for value in range(1, many + 1)]
                self.refused(NoKind, scales, [(value, 1) for value in range(1, 11)], purse)
                self.refused(NoKind, deal, [(value, 1) for value in range(1, 11)], purse, 5)

    def test_a_purse_of_as_many_pairs_as_a_till_may_have(self):
        till = [(value, 1) for value in range(1, 11)]
        rows = self.given(scales, till, list(till))
        self.assertEqual(len(rows), 11)
        self.assertEqual(self.given(deal, till, list(till), 55), (till, []))

    def test_ways_that_pay_some_of_a_kind_and_give_back_some_of_another(self):
        self.assertEqual(self.given(deal, [(2, 1), (5, 0)], [(5, 1)], 3), ([(5, 1)], [(2, 1)]))
        self.assertEqual(self.given(deal, [(3, 2), (10, 0)], [(3, 5), (10, 1)], 4), ([(10, 1)], [(3, 2)]))
        self.assertEqual(
            self.given(deal, [(1, 5), (20, 1), (50, 0)], [(1, 0), (50, 1)], 28),
            ([(50, 1)], [(1, 2), (20, 1)]),
        )
        # A piece of small value is paid so that one of great value comes back.
        self.assertEqual(
            self.given(deal, [(1, 0), (10, 1), (20, 0)], [(1, 9), (20, 1)], 11),
            ([(1, 1), (20, 1)], [(10, 1)]),
        )


class Scales(PromiseCase):
    def test_the_first_row_is_0_at_worth_0_alone(self):
        for till, purse in ((TILL, []), (TILL, [(3, 2)]), (EMPTY, []), (EMPTY, [(100, 3)]), ([(1000, 1)], [])):
            row = self.given(scales, till, purse)[0]
            expected = [None] * (worth(till) + worth(purse) + 1)
            expected[worth(till)] = 0
            self.assertEqual(row, expected)

    def test_the_size_and_the_kinds_of_values(self):
        for till, purse in ((TILL, [(1, 4)]), (EMPTY, [(1, 5), (1000, 1)]), ([(750, 1)], [(750, 1)])) + LARGER:
            rows = self.given(scales, till, purse)
            self.assertIs(type(rows), list)
            self.assertEqual(len(rows), len(till) + 1)
            for row in rows:
                self.assertIs(type(row), list)
                self.assertEqual(len(row), worth(till) + worth(purse) + 1)
                self.assertIs(type(row[worth(till)]), int)
                self.assertEqual(row[worth(till)], 0)
                self.assertLessEqual({type(least) for least in row}, {int, type(None)})

    def test_one_kind(self):
        self.assertEqual(self.given(scales, [(1, 2)], [(1, 3)]), [
            [None, None, 0, None, None, None],
            [2, 1, 0, 1, 2, 3],
        ])
        self.assertEqual(self.given(scales, [(3, 1)], [(3, 1)]), [
            [None, None, None, 0, None, None, None],
            [1, None, None, 0, None, None, 1],
        ])

    def test_the_fewest_pieces_are_those_of_all_ways(self):
        for till, purse in small_cases():
            rows = scales(till, purse)
            self.assertEqual(len(rows), len(till) + 1)
            for many, row in enumerate(rows):
                expected = [None] * (worth(till) + worth(purse) + 1)
                for made, ways in all_deals(till[:many], purse).items():
                    expected[worth(till) + made] = min(way_pieces(numbers) for numbers in ways)
                self.assertEqual(row, expected, (till, purse, many))

    def test_larger_tills_and_purses(self):
        for till, purse in LARGER:
            self.assertEqual(self.given(scales, till, purse), slow_scales(till, purse))

    def test_both_worths_together_up_to_1500(self):
        for till, purse in (
            ([(1, 1500)], []),
            ([(1, 0)], [(1, 1500)]),
            ([(1, 750)], [(1, 750)]),
            ([(1, 499), (1000, 1)], [(1, 1)]),
            ([(1, 0), (500, 1), (1000, 0)], [(1000, 1)]),
            ([(1, 0), (3, 500)], []),
            ([(1, 0), (3, 0)], [(3, 500)]),
        ):
            rows = self.given(scales, till, purse)
            self.assertEqual([len(row) for row in rows], [1501] * (len(till) + 1))
            self.assertEqual(self.given(deal, till, purse, 0), ([], []))

    def test_one_more_than_1500(self):
        for till, purse in (
            ([(1, 1501)], []),
            ([(1, 0)], [(1, 1501)]),
            ([(1, 751)], [(1, 750)]),
            ([(1, 750)], [(1, 751)]),
            ([(1, 500), (1000, 1)], [(1, 1)]),
            ([(1, 0), (500, 1), (1000, 0)], [(1, 1), (1000, 1)]),
            ([(19, 79)], []),
            ([(19, 0)], [(19, 79)]),
        ):
            self.assertEqual(worth(till) + worth(purse), 1501)
            self.refused(NoSum, scales, till, purse)
            for price in (0, 1, 1000):
                self.refused(NoSum, deal, till, purse, price)

    def test_far_more_than_1500(self):
        full = [(value, MILLIARD) for value in COINS]
        for till, purse in ((full, []), (full, full), (EMPTY, full), ([(1000, MILLIARD)], [(1000, 1)])):
            self.refused(NoSum, scales, till, purse)
            self.refused(NoSum, deal, till, purse, 0)

    def test_no_kind_is_ahead_of_no_sum(self):
        for till, purse in (
            ([(1, 1501)], [(2, 0)]),
            ([(1, 0)], [(1, 1501), (2, 1)]),
            ([(1, MILLIARD)], [(1, MILLIARD), (1000, MILLIARD)]),
            ([(5, 1)], [(4, MILLIARD)]),
        ):
            self.refused(NoKind, scales, till, purse)
            self.refused(NoKind, deal, till, purse, 0)

    def test_the_rows_are_apart(self):
        for till, purse in ((EMPTY, []), (TILL, [(3, 1)]), (EMPTY, [(1, 3)]), ([(5, 0), (7, 0), (9, 1)], [])):
            for at in range(len(till) + 1):
                rows = scales(till, purse)
                others = [list(other) for other in rows[:at] + rows[at + 1:]]
                rows[at][0] = "spoilt"
                rows[at].append("spoilt")
                self.assertEqual(rows[:at] + rows[at + 1:], others)


class Deal(PromiseCase):
    def check(self, till, purse, price, handed, back):
        told = self.given(deal, till, purse, price)
        self.assertIs(type(told), tuple)
        self.assertEqual(told, (handed, back))
        self.check_promises(till, purse, price, told)

    def check_promises(self, till, purse, price, told):
        """What each deal keeps to, whatever other ways there are."""
        handed, back = told
        self.check_pairs(handed)
        self.check_pairs(back)
        self.assertEqual(worth(handed) - worth(back), price)
        for part, source in ((handed, purse), (back, till)):
            for value, count in part:
                self.assertIn(count, range(1, count_of(source, value) + 1))
        self.assertEqual(set(dict(handed)) & set(dict(back)), set())

    def test_ordinary_prices(self):
        self.check(TILL, [(1, 1), (4, 2)], 4, [(4, 1)], [])
        self.check(TILL, [(1, 1), (4, 2)], 3, [(4, 1)], [(1, 1)])
        self.check(TILL, [(1, 1), (4, 2)], 5, [(1, 1), (4, 1)], [])
        self.check(TILL, [(1, 1), (4, 2)], 7, [(4, 2)], [(1, 1)])
        self.check([(1, 4), (5, 2), (10, 1)], [(10, 3)], 16, [(10, 2)], [(1, 4)])
        self.check([(1, 4), (5, 2), (10, 1)], [(1, 1), (10, 3)], 16, [(1, 1), (10, 2)], [(5, 1)])

    def test_the_price_0(self):
        for till, purse in ((TILL, []), (TILL, list(TILL)), (EMPTY, list(EMPTY)), ([(1, 3)], [(1, 3)])) + LARGER:
            self.check(till, purse, 0, [], [])

    def test_the_price_1000(self):
        self.check([(1000, 0)], [(1000, 1)], 1000, [(1000, 1)], [])
        self.check([(1, 0)], [(1, 1000)], 1000, [(1, 1000)], [])
        self.check([(1, 1), (7, 0)], [(7, 143)], 1000, [(7, 143)], [(1, 1)])
        self.check([(100, 2), (300, 0)], [(300, 4)], 1000, [(300, 4)], [(100, 2)])

    def test_all_of_the_purse_and_all_of_the_till(self):
        self.check([(3, 2), (100, 0)], [(100, 1)], 94, [(100, 1)], [(3, 2)])
        self.check([(3, 0), (100, 0)], [(3, 2), (100, 1)], 106, [(3, 2), (100, 1)], [])
        self.check([(1, 1), (3, 2), (100, 0)], [(100, 2)], 193, [(100, 2)], [(1, 1), (3, 2)])

    def test_of_several_ways_the_greater_number_at_the_greatest_unlike_value(self):
        # 4 is 3 + 1 and 2 + 2.
        self.check([(1, 0), (2, 0), (3, 0)], [(1, 1), (2, 2), (3, 1)], 4, [(1, 1), (3, 1)], [])
        # 2 is 1 + 1 and 3 - 1 and 6 - 4.
        self.check([(1, 1), (3, 0)], [(1, 2), (3, 1)], 2, [(3, 1)], [(1, 1)])
        self.check([(1, 1), (3, 0), (4, 1), (6, 0)], [(1, 2), (3, 1), (6, 1)], 2, [(6, 1)], [(4, 1)])
        # 8 is 3 + 5 and 9 - 1.
        till = [(1, 1), (3, 0), (5, 0), (9, 0)]
        self.check(till, [(3, 1), (5, 1), (9, 1)], 8, [(9, 1)], [(1, 1)])
        # 14 is 10 + 3 + 1 and 10 + 2 + 2.
        till = [(1, 0), (2, 0), (3, 0), (10, 0)]
        self.check(till, [(1, 1), (2, 2), (3, 1), (10, 1)], 14, [(1, 1), (3, 1), (10, 1)], [])

    def test_what_is_given_back_counts_as_a_number_below_0(self):
        # 2 is 4 - 1 - 1 and 7 + 7 - 12: of 12 the number 0 is greater than -1.
        till = [(1, 2), (4, 0), (7, 0), (12, 1)]
        self.check(till, [(4, 1), (7, 2)], 2, [(4, 1)], [(1, 2)])
        # 6 is 10 - 3 - 1 and 10 - 2 - 2: of 3 the number 0 is greater than -1.
        till = [(1, 1), (2, 2), (3, 1), (10, 0)]
        self.check(till, [(10, 1)], 6, [(10, 1)], [(2, 2)])

    def test_the_deal_is_that_of_all_ways(self):
        for till, purse in small_cases():
            ways = all_deals(till, purse)
            for price in range(worth(purse) + 3):
                if price in ways:
                    told = deal(till, purse, price)
                    self.assertEqual(told, best_deal(till, ways[price]), (till, purse, price))
                    self.check_promises(till, purse, price, told)
                else:
                    with self.assertRaises(NoChange):
                        deal(till, purse, price)

    def test_larger_tills_and_purses(self):
        for till, purse in LARGER:
            least = slow_scales(till, purse)[-1]
            for price in range(0, min(worth(purse), 1000) + 1, 17):
                fewest = least[worth(till) + price]
                if fewest is None:
                    self.refused(NoChange, deal, till, purse, price)
                else:
                    told = self.given(deal, till, purse, price)
                    self.check_promises(till, purse, price, told)
                    self.assertEqual(pieces(told[0]) + pieces(told[1]), fewest)

    def test_the_scales_tell_how_many_pieces_a_deal_has(self):
        till, purse = [(1, 9), (5, 9), (10, 9), (50, 4)], [(1, 3), (5, 7), (10, 2), (50, 9)]
        row = scales(till, purse)[-1]
        for price in range(worth(purse) + 1):
            handed, back = deal(till, purse, price)
            self.assertEqual(pieces(handed) + pieces(back), row[worth(till) + price])

    def test_what_is_no_price(self):
        for price in NO_SUMS:
            self.refused(NoSum, deal, TILL, [(1, 1)], price)
            self.refused(NoSum, deal, [(1000, 1)], [], price)
            # Ahead of NoKind, and of the worths.
            self.refused(NoSum, deal, TILL, [(2, 1)], price)
            self.refused(NoSum, deal, TILL, [(1, 1501)], price)
            self.refused(NoSum, deal, [(1, MILLIARD)], [(2, 1)], price)

    def test_a_price_beyond_the_worth_of_the_purse(self):
        for till, purse in ((TILL, []), (TILL, [(1, 3), (4, 2)]), (EMPTY, [(500, 1)]), ([(1, 500)], [(1, 998)])):
            for price in (worth(purse) + 1, worth(purse) + 2, 1000):
                self.refused(NoChange, deal, till, purse, price)

    def test_a_price_that_no_way_makes(self):
        self.refused(NoChange, deal, [(5, 0)], [(5, 2)], 4)
        self.refused(NoChange, deal, [(5, 3)], [(5, 2)], 9)
        self.refused(NoChange, deal, [(2, 5), (4, 1)], [(2, 9), (4, 3)], 3)
        self.refused(NoChange, deal, [(1, 1), (5, 0)], [(5, 1)], 3)
        self.refused(NoChange, deal, [(1, 0), (1000, 0)], [(1000, 1)], 999)
        self.refused(NoChange, deal, [(1, 499), (1000, 0)], [(1000, 1)], 500)
        self.check([(1, 499), (1000, 0)], [(1000, 1)], 501, [(1000, 1)], [(1, 499)])

    def test_no_change_comes_last(self):
        self.refused(NoKind, deal, [(5, 0)], [(4, 1)], 3)
        self.refused(NoSum, deal, [(5, 0)], [(5, 301)], 3)
        self.refused(NoChange, deal, [(5, 0)], [(5, 300)], 3)


class PaidAsDealt(unittest.TestCase):
    def test_as_many_pieces_come_back_as_the_deal_tells(self):
        for till, purse in small_cases():
            for price in range(worth(purse) + 1):
                try:
                    handed, back = deal(till, purse, price)
                except NoChange:
                    continue
                # So few pieces of so little worth are never refused.
                change = paid(till, price, single_pieces(handed))[1]
                self.assertEqual(pieces(change), pieces(back), (till, purse, price))

    def test_larger_tills_and_purses(self):
        for till, purse in LARGER:
            for price in range(0, min(worth(purse), 1000) + 1, 13):
                try:
                    handed, back = deal(till, purse, price)
                except NoChange:
                    continue
                if pieces(handed) > 60 or worth(back) > 1000:
                    with self.assertRaises(TillError):
                        paid(till, price, single_pieces(handed))
                else:
                    change = paid(till, price, single_pieces(handed))[1]
                    self.assertEqual(pieces(change), pieces(back), (till, purse, price))


if __name__ == "__main__":
    unittest.main()
