"""Point 1 over the whole program: every function of the interface beside the others."""

import ast
import copy
import pathlib
import unittest

import tilldrawer
from tests.helpers import MILLIARD, lists_in, spoil
from tilldrawer.days import day
from tilldrawer.deals import deal, scales
from tilldrawer.deeds import brought, fetched, kind_in, kind_out, paid
from tilldrawer.errors import NoKind
from tilldrawer.pieces import count_of, pieces, till_of, worth
from tilldrawer.sums import fewest, sums, table

FOLDER = pathlib.Path(tilldrawer.__file__).parent
LIBRARY = {
    "heapq": {"heappush", "heappop", "heapify", "heapreplace", "heappushpop"},
    "math": {"gcd", "lcm", "isqrt", "comb", "perm", "factorial"},
}
OUTSIDE = {"open", "input", "print", "exec", "eval", "compile", "id", "hash", "globals", "__import__"}

TILL = [(1, 3), (5, 2), (10, 0), (20, 1)]
PURSE = [(1, 4), (10, 2), (20, 0)]
VALUES = [10, 20]
DEEDS = [("paid", 13, [20]), ("in", 2), ("out", 2), ("sold", 1), ("fetched", 20, 9), ("paid", 1, [])]


def calls():
    """A call of each function of the interface; all of them share what is handed in."""
    return (
        (till_of, (TILL,)),
        (worth, (TILL,)),
        (pieces, (PURSE,)),
        (count_of, (TILL, 5)),
        (table, (TILL, 30)),
        (sums, (TILL, 30)),
        (fewest, (TILL, 12)),
        (fewest, (TILL, 0)),
        (paid, (TILL, 14, VALUES)),
        (paid, (TILL, 30, VALUES)),
        (brought, (TILL, 5, 0)),
        (fetched, (TILL, 5, 0)),
        (kind_in, (TILL, 7)),
        (kind_out, (TILL, 10)),
        (day, (TILL, DEEDS)),
        (day, (TILL, [])),
        (scales, (TILL, PURSE)),
        (scales, (TILL, [])),
        (deal, (TILL, PURSE, 9)),
        (deal, (TILL, PURSE, 0)),
    )


class Answers(unittest.TestCase):
    def test_what_is_told_is_the_askers_own(self):
        handed_in = copy.deepcopy((TILL, PURSE, VALUES, DEEDS))
        given = [function(*told) for function, told in calls()]
        kept = copy.deepcopy(given)
        again = [function(*told) for function, told in calls()]
        self.assertEqual(given, kept, "what was told is changed by what was asked later")
        self.assertEqual(again, kept)
        found = lists_in((TILL, PURSE, VALUES, DEEDS)) + lists_in(given) + lists_in(again)
        self.assertEqual(len({id(each) for each in found}), len(found), "a list in two places")
        for at, answer in enumerate(given):
            spoil(answer)
            self.assertEqual(given[at + 1:], kept[at + 1:])
        self.assertEqual((TILL, PURSE, VALUES, DEEDS), handed_in)
        self.assertEqual([function(*told) for function, told in calls()], kept)

    def test_what_is_told_does_not_hang_on_what_is_handed_in(self):
        till, purse, values = copy.deepcopy((TILL, PURSE, VALUES))
        given = [
            till_of(till),
            paid(till, 30, values),
            brought(till, 5, 0),
            kind_in(till, 7),
            kind_out(till, 10),
            day(till, [("sold",)]),
            deal(till, purse, 24),
        ]
        kept = copy.deepcopy(given)
        for each in (till, purse, values):
            each.clear()
        self.assertEqual(given, kept)

    def test_a_till_behind_is_handed_in_again(self):
        till = till_of([(20, 1), (1, 3), (10, 0), (5, 2)])
        till, change = paid(till, 13, [20])
        till = brought(till, 10, 3)
        till = kind_in(till, 2)
        till = fetched(till, 20, 2)
        till = kind_out(till, 20)
        till, answers = day(till, [("paid", 2, [5, 1]), ("brought", 2, 4), ("paid", 2, [10])])
        self.assertEqual(change, [(1, 2), (5, 1)])
        self.assertEqual(answers, [("no change", []), ("done", []), ("done", [(1, 1), (2, 1), (5, 1)])])
        self.assertEqual(till, [(1, 0), (2, 3), (5, 0), (10, 4)])
        self.assertEqual(till_of(till), till)
        self.assertEqual(sums(till, 7), [0, 2, 4, 6])


class Purses(unittest.TestCase):
    def test_worth_pieces_and_count_of_a_purse(self):
        self.assertEqual((worth(PURSE), pieces(PURSE)), (24, 6))
        self.assertEqual([count_of(PURSE, value) for value in (1, 10, 20)], [4, 2, 0])
        self.assertEqual((worth([]), pieces([])), (0, 0))
        for purse, value in (([], 1), ([], 0), (PURSE, 5), (PURSE, 1001)):
            with self.assertRaises(NoKind):
                count_of(purse, value)

    def test_worth_pieces_and_count_of_changes_and_deals(self):
        change = paid(TILL, 13, [20])[1]
        self.assertEqual((worth(change), pieces(change), count_of(change, 1)), (7, 3, 2))
        handed, back = deal(TILL, PURSE, 9)
        self.assertEqual((handed, back), ([(10, 1)], [(1, 1)]))
        self.assertEqual((worth(handed), pieces(handed), worth(back), pieces(back)), (10, 1, 1, 1))
        for pairs in (change, handed, back):
            with self.assertRaises(NoKind):
                count_of(pairs, 20)


class Beyond(unittest.TestCase):
    """Somewhat beyond a limit there is no error where no point names one."""

    def test_more_than_24_deeds(self):
        till, answers = day([(1, 0)], [("brought", 1, 1)] * 25)
        self.assertEqual((till, answers), ([(1, 25)], [("done", [])] * 25))

    def test_more_than_10_kinds_and_more_than_a_milliard(self):
        till = [(value, 1) for value in range(1, 13)]
        self.assertEqual(fewest(till, 12), [(12, 1)])
        self.assertEqual(paid(till, 1, [1])[1], [])
        self.assertEqual(deal(till, till, 12), ([(12, 1)], []))
        self.assertEqual(len(scales(till, till)), 13)
        self.assertEqual(fetched([(1, MILLIARD + 1)], 1, 1), [(1, MILLIARD)])
        self.assertEqual(fewest([(1, MILLIARD + 1)], 3), [(1, 3)])


class Source(unittest.TestCase):
    def trees(self):
        for path in sorted(FOLDER.rglob("*.py")):
            yield path.name, ast.parse(path.read_text(encoding="utf-8"))

    def test_no_module_from_outside(self):
        for name, tree in self.trees():
            for node in ast.walk(tree):
                self.assertNotIsInstance(node, ast.Import, name)
                if isinstance(node, ast.ImportFrom) and not node.module.startswith("tilldrawer."):
                    imported = {each.name for each in node.names}
                    self.assertLessEqual(imported, LIBRARY.get(node.module, set()), name)

    def test_nothing_that_reads_writes_or_hangs_on_the_machine(self):
        for name, tree in self.trees():
            names = {node.id for node in ast.walk(tree) if isinstance(node, ast.Name)}
            self.assertEqual(names & OUTSIDE, set(), name)

    def test_the_folder_holds_the_files_of_the_interface(self):
        found = {path.name for path in FOLDER.iterdir() if path.name != "__pycache__"}
        self.assertLessEqual(
            {"errors.py", "pieces.py", "sums.py", "deeds.py", "days.py", "deals.py", "__init__.py"}, found
        )
        self.assertEqual({pathlib.Path(name).suffix for name in found}, {".py"})


if __name__ == "__main__":
    unittest.main()
