"""Points 1, 4 and 5: tilldrawer/sums.py."""

import unittest

from tests.helpers import (
    FAR_ABOVE,
    FAR_BELOW,
    MILLIARD,
    PromiseCase,
    all_ways,
    best_change,
    slow_table,
    small_tills,
)
from tilldrawer import sums as module
from tilldrawer.errors import NoChange, NoSum
from tilldrawer.pieces import pieces, worth
from tilldrawer.sums import fewest, sums, table

COINS = (1, 2, 5, 10, 20, 50, 100, 200, 500, 1000)
FULL = [(value, MILLIARD) for value in COINS]
EMPTY = [(value, 0) for value in COINS]

# Tills with more pieces than all ways can be tried of.
LARGER = (
    [(3, 5), (4, 6), (7, 7)],
    [(2, 11), (5, 13), (9, 3), (10, 1)],
    [(1, 4), (6, 9), (9, 10), (11, 20), (12, 0)],
    [(value, value % 4 + 1) for value in range(11, 21)],
    [(value, 17) for value in range(3, 13)],
    [(1, MILLIARD), (7, 30), (12, MILLIARD), (13, 2), (100, 1)],
    [(6, MILLIARD), (10, MILLIARD), (15, MILLIARD)],
)


class Interface(unittest.TestCase):
    def test_each_function_is_defined_in_the_file_that_lists_it(self):
        for name in ("table", "sums", "fewest"):
            self.assertEqual(getattr(module, name).__module__, "tilldrawer.sums")

    def test_the_arguments_have_the_names_that_are_listed(self):
        till = [(2, 2), (3, 1)]
        self.assertEqual(table(till=till, most=0), [[0], [0], [0]])
        self.assertEqual(sums(till=till, most=3), [0, 2, 3])
        self.assertEqual(fewest(till=till, due=5), [(2, 1), (3, 1)])


class Table(PromiseCase):
    def test_a_row_for_no_kinds_and_one_for_each_kind(self):
        self.assertEqual(
            self.given(table, [(2, 2), (3, 1)], 8),
            [
                [0, None, None, None, None, None, None, None, None],
                [0, None, 1, None, 2, None, None, None, None],
                [0, None, 1, 1, 2, 2, None, 3, None],
            ],
        )

    def test_a_count_of_0_and_a_kind_above_the_sum_make_a_row_of_their_own(self):
        self.assertEqual(
            self.given(table, [(1, 0), (2, 1), (3, 0), (9, 5)], 3),
            [
                [0, None, None, None],
                [0, None, None, None],
                [0, None, 1, None],
                [0, None, 1, None],
                [0, None, 1, None],
            ],
        )

    def test_the_size_and_the_kinds_of_values(self):
        for till in (FULL, EMPTY, [(1, 1)], [(1000, MILLIARD)]):
            for most in (0, 1, 2, 999, 1000):
                rows = self.given(table, till, most)
                self.assertIs(type(rows), list)
                self.assertEqual(len(rows), len(till) + 1)
                for row in rows:
                    self.assertIs(type(row), list)
                    self.assertEqual(len(row), most + 1)
                    self.assertIs(type(row[0]), int)
                    self.assertLessEqual({type(least) for least in row}, {int, type(None)})

    def test_up_to_0_there_is_just_the_sum_of_no_pieces(self):
        self.assertEqual(self.given(table, FULL, 0), [[0]] * 11)
        self.assertEqual(self.given(table, [(1, 0)], 0), [[0], [0]])

    def test_the_least_counts_are_those_of_all_ways(self):
        for till in small_tills():
            most = worth(till) + 2
            rows = table(till, most)
            self.assertEqual(len(rows), len(till) + 1)
            for many, row in enumerate(rows):
                ways = all_ways(till[:many])
                expected = [None] * (most + 1)
                for made, found in ways.items():
                    expected[made] = min(sum(counts) for counts in found)
                self.assertEqual(row, expected, (till, many))

    def test_larger_tills(self):
        for till in LARGER:
            for most in (100, 399):
                self.assertEqual(self.given(table, till, most), slow_table(till, most), till)

    def test_one_kind_runs_out_at_any_count(self):
        for value in (1, 3):
            for count in list(range(0, 70)) + [127, 128, 129, 333]:
                expected = [None] * 1001
                for many in range(0, count + 1):
                    if many * value <= 1000:
                        expected[many * value] = many
                self.assertEqual(table([(value, count)], 1000)[1], expected, (value, count))

    def test_counts_of_0(self):
        nothing = [0] + [None] * 1000
        self.assertEqual(self.given(table, EMPTY, 1000), [nothing] * 11)

    def test_counts_of_a_milliard(self):
        rows = self.given(table, [(1, MILLIARD)], 1000)
        self.assertEqual(rows[1], list(range(1001)))
        rows = self.given(table, [(1, MILLIARD), (7, MILLIARD)], 1000)
        self.assertEqual(rows[2], [due // 7 + due % 7 for due in range(1001)])
        rows = self.given(table, [(1000, MILLIARD)], 1000)
        self.assertEqual(rows[1], [0] + [None] * 999 + [1])
        rows = self.given(table, [(501, MILLIARD), (999, MILLIARD)], 1000)
        self.assertEqual([due for due in range(1001) if rows[2][due] is not None], [0, 501, 999])

    def test_the_sum_of_all_pieces_and_one_beyond(self):
        till = [(100, 2), (200, 1), (500, 1)]
        row = self.given(table, till, 1000)[3]
        self.assertEqual(row[900], 4)
        self.assertEqual(row[901:], [None] * 100)

    def test_the_rows_of_a_table_are_apart(self):
        for till in (FULL, EMPTY, [(5, 0), (7, 0), (900, 3)]):
            rows = table(till, 20)
            for at, row in enumerate(rows):
                others = [list(other) for other in rows[:at] + rows[at + 1:]]
                row[0] = "spoilt"
                row.append("spoilt")
                self.assertEqual(rows[:at] + rows[at + 1:], others)
                rows = table(till, 20)


class Sums(PromiseCase):
    def test_the_sums_that_pieces_make(self):
        self.assertEqual(self.given(sums, [(2, 2), (3, 1)], 8), [0, 2, 3, 4, 5, 7])
        self.assertEqual(self.given(sums, [(2, 2), (3, 1)], 7), [0, 2, 3, 4, 5, 7])
        self.assertEqual(self.given(sums, [(2, 2), (3, 1)], 6), [0, 2, 3, 4, 5])
        self.assertEqual(self.given(sums, [(5, 1), (10, 1)], 1000), [0, 5, 10, 15])

    def test_0_is_among_them(self):
        for till in (FULL, EMPTY, [(1, 1)], [(1000, 0)]):
            self.assertEqual(self.given(sums, till, 0), [0])
        self.assertEqual(self.given(sums, EMPTY, 1000), [0])
        self.assertEqual(self.given(sums, [(1000, 1)], 999), [0])
        self.assertEqual(self.given(sums, [(1000, 1)], 1000), [0, 1000])

    def test_all_sums_of_a_full_till(self):
        told = self.given(sums, FULL, 1000)
        self.assertEqual(told, list(range(1001)))
        self.assertEqual({type(due) for due in told}, {int})

    def test_just_the_sums_of_all_ways(self):
        for till in small_tills():
            made = sorted(all_ways(till))
            self.assertEqual(sums(till, worth(till) + 2), made, till)
            half = worth(till) // 2
            self.assertEqual(sums(till, half), [due for due in made if due <= half], till)


class Fewest(PromiseCase):
    def check(self, till, due, expected):
        change = self.given(fewest, till, due)
        self.check_pairs(change)
        self.assertEqual(change, expected)

    def test_ordinary_change(self):
        self.check([(5, 4), (10, 4), (20, 1)], 45, [(5, 1), (10, 2), (20, 1)])
        self.check([(1, 3), (2, 3), (5, 3)], 9, [(2, 2), (5, 1)])
        self.check([(1, 3)], 3, [(1, 3)])
        self.check(FULL, 888, [(1, 1), (2, 1), (5, 1), (10, 1), (20, 1), (50, 1),
                               (100, 1), (200, 1), (500, 1)])

    def test_the_greatest_value_first_is_wrong(self):
        self.check([(1, 9), (3, 9), (4, 9)], 6, [(3, 2)])
        self.check([(1, 9), (10, 9), (25, 9)], 30, [(10, 3)])
        self.check([(3, 2), (5, 1)], 6, [(3, 2)])
        self.check([(2, 9), (5, 1), (9, 9)], 10, [(2, 5)])
        self.check([(1, 9), (5, 9), (6, 9), (9, 9)], 11, [(5, 1), (6, 1)])

    def test_a_count_that_runs_out(self):
        self.check([(1, 9), (5, 1), (10, 0)], 14, [(1, 9), (5, 1)])
        self.check([(1, 9), (3, 1), (4, 1)], 6, [(1, 2), (4, 1)])
        self.check([(1, 2), (3, 2), (4, 1)], 6, [(3, 2)])
        self.check([(20, 3), (50, 1)], 60, [(20, 3)])

    def test_of_several_ways_it_has_more_of_the_greatest_unlike_value(self):
        self.check([(1, 5), (2, 5), (3, 5)], 4, [(1, 1), (3, 1)])
        self.check([(1, 1), (2, 2), (3, 1)], 4, [(1, 1), (3, 1)])
        self.check([(1, 5), (2, 5), (3, 5), (10, 2)], 24, [(1, 1), (3, 1), (10, 2)])
        self.check([(1, 9), (4, 9), (5, 9), (8, 9)], 9, [(1, 1), (8, 1)])
        self.check([(2, 9), (4, 9), (5, 9), (6, 9), (7, 9)], 12, [(5, 1), (7, 1)])
        self.check([(1, 0), (2, 2), (3, 1)], 4, [(2, 2)])

    def test_the_change_for_0(self):
        for till in (FULL, EMPTY, [(1, 0)], [(1000, 1)]):
            self.check(till, 0, [])

    def test_the_change_is_that_of_all_ways(self):
        for till in small_tills():
            ways = all_ways(till)
            for due in range(worth(till) + 3):
                if due in ways:
                    self.assertEqual(fewest(till, due), best_change(till, ways[due]), (till, due))
                else:
                    with self.assertRaises(NoChange):
                        fewest(till, due)

    def test_what_is_promised_of_larger_tills(self):
        for till in LARGER:
            there = dict(till)
            least = slow_table(till, 300)[-1]
            for due in range(0, 301, 3):
                if least[due] is None:
                    self.refused(NoChange, fewest, till, due)
                    continue
                change = self.given(fewest, till, due)
                self.check_pairs(change)
                self.assertEqual(worth(change), due)
                self.assertEqual(pieces(change), least[due])
                for value, count in change:
                    self.assertIn(count, range(1, there[value] + 1))

    def test_counts_of_a_milliard(self):
        self.check([(1, MILLIARD)], 1000, [(1, 1000)])
        self.check([(1, MILLIARD), (7, MILLIARD)], 1000, [(1, 6), (7, 142)])
        self.check(FULL, 1000, [(1000, 1)])
        self.check(FULL, 999, [(2, 2), (5, 1), (20, 2), (50, 1), (200, 2), (500, 1)])

    def test_no_change_where_no_pieces_make_the_sum(self):
        self.refused(NoChange, fewest, [(2, 9)], 3)
        self.refused(NoChange, fewest, [(2, 1)], 4)
        self.refused(NoChange, fewest, [(1, 0)], 1)
        self.refused(NoChange, fewest, [(1000, MILLIARD)], 999)
        self.refused(NoChange, fewest, [(2, 3), (5, 1)], 12)
        self.refused(NoChange, fewest, [(1, 999)], 1000)
        self.check([(1, 999)], 999, [(1, 999)])
        for due in (1, 2, 999, 1000):
            self.refused(NoChange, fewest, EMPTY, due)


class NoSums(PromiseCase):
    def test_the_edges_are_taken(self):
        for till in (FULL, EMPTY, [(1000, 1)], [(2, 3)]):
            for most in (0, 1000):
                self.assertEqual(len(table(till, most)[-1]), most + 1)
                self.assertEqual(sums(till, most)[0], 0)
            self.assertEqual(fewest(till, 0), [])
        self.assertEqual(fewest([(1000, 1)], 1000), [(1000, 1)])
        self.assertEqual(fewest([(250, 2), (500, 1)], 1000), [(250, 2), (500, 1)])

    def test_what_is_no_sum_is_refused(self):
        for function in (table, sums, fewest):
            for till in (FULL, EMPTY, [(1, MILLIARD)], [(143, 7)]):
                for due in (-1, -2, 1001, 1002, 1500, 2000) + FAR_BELOW + FAR_ABOVE:
                    self.refused(NoSum, function, till, due)

    def test_no_sum_comes_before_no_change(self):
        for till in (EMPTY, [(2, 0)], [(2, 5)]):
            for due in (-1, 1001, 3001):
                self.refused(NoSum, fewest, till, due)


if __name__ == "__main__":
    unittest.main()
