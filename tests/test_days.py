"""Points 1 and 9: tilldrawer/days.py."""

import copy
import itertools
import unittest

from tests.helpers import MILLIARD, PromiseCase, lists_in
from tilldrawer import days as module
from tilldrawer import errors
from tilldrawer.days import day
from tilldrawer.deeds import brought, fetched, kind_in, kind_out, paid

TILL = [(1, 3), (5, 2), (10, 0), (20, 1)]
TEN_KINDS = [(value, 0) for value in range(2, 12)]

WORDS = {
    errors.NoKind: "no kind",
    errors.Twice: "twice",
    errors.NoCount: "no count",
    errors.NoTill: "no till",
    errors.NoSum: "no sum",
    errors.TooLittle: "too little",
    errors.NoChange: "no change",
    errors.TooFew: "too few",
    errors.StillHeld: "still held",
    errors.NoDeed: "no deed",
}

# Each class that can refuse each deed: a till, the deed, the word of the answer.
REFUSED = (
    (TILL, ("paid", 1001, [20]), "no sum"),
    (TILL, ("paid", -1, []), "no sum"),
    ([(1, 0), (1000, 5)], ("paid", 0, [1000, 1]), "no sum"),
    (TILL, ("paid", 61, [1] * 61), "no count"),
    ([(1, MILLIARD)], ("paid", 1, [1]), "no count"),
    (TILL, ("paid", 5, [2, 5]), "no kind"),
    (TILL, ("paid", 21, [20]), "too little"),
    (TILL, ("paid", 1, [10, 10]), "no change"),
    (TILL, ("brought", 2, 1), "no kind"),
    (TILL, ("brought", 5, -1), "no count"),
    (TILL, ("brought", 5, MILLIARD), "no count"),
    (TILL, ("fetched", 0, 1), "no kind"),
    (TILL, ("fetched", 1, MILLIARD + 1), "no count"),
    (TILL, ("fetched", 1, 4), "too few"),
    (TILL, ("in", 0), "no kind"),
    (TILL, ("in", 1001), "no kind"),
    (TILL, ("in", 5), "twice"),
    (TEN_KINDS, ("in", 1), "no till"),
    (TILL, ("out", 2), "no kind"),
    (TILL, ("out", 20), "still held"),
    ([(7, 0)], ("out", 7), "no till"),
    (TILL, ("sold", 5, [5]), "no deed"),
)

DONE = (
    (("paid", 13, [20]), [(1, 1), (5, 1), (10, 0), (20, 2)], [(1, 2), (5, 1)]),
    (("paid", 5, [5]), [(1, 3), (5, 3), (10, 0), (20, 1)], []),
    (("paid", 0, []), TILL, []),
    (("brought", 10, 4), [(1, 3), (5, 2), (10, 4), (20, 1)], []),
    (("brought", 10, 0), TILL, []),
    (("fetched", 1, 3), [(1, 0), (5, 2), (10, 0), (20, 1)], []),
    (("fetched", 10, 0), TILL, []),
    (("in", 2), [(1, 3), (2, 0), (5, 2), (10, 0), (20, 1)], []),
    (("in", 1000), [(1, 3), (5, 2), (10, 0), (20, 1), (1000, 0)], []),
    (("out", 10), [(1, 3), (5, 2), (20, 1)], []),
)

NO_DEEDS = (
    ("",),
    ("", 1),
    ("", 5, [5]),
    ("sold",),
    ("sold", 5),
    ("sold", 5, [5]),
    ("sold", 5, 1),
    ("sold", 1, 2, 3, 4, 5),
    ("Paid", 5, [5]),
    ("paid ", 5, [5]),
    (" in", 2),
    ("IN", 2),
    ("pay", 5, [5]),
    ("bring", 5, 1),
    ("fetch", 5, 1),
    ("into", 2),
    ("kind_in", 2),
    ("kind_out", 10),
    ("ou", 10),
    ("done", []),
    ("no deed", []),
)

# A day of which some deeds are done and some are refused.
LONG = (
    ("paid", 13, [20]),
    ("in", 2),
    ("brought", 2, 5),
    ("fetched", 20, 3),
    ("paid", 6, [10]),
    ("in", 2),
    ("out", 2),
    ("fetched", 20, 2),
    ("out", 20),
    ("paid", 20, [20]),
    ("closed",),
    ("in", 50),
    ("paid", 41, [50]),
    ("brought", 50, -1),
    ("paid", 1001, []),
    ("paid", 9, [5, 2, 1]),
    ("paid", 8, [5, 2, 1]),
    ("fetched", 1, 2),
    ("out", 50),
    ("fetched", 50, 1),
    ("out", 50),
    ("in", 20),
    ("paid", 2, [20]),
    ("brought", 7, 1),
)


def one_by_one(till, deeds):
    """What a day of these deeds tells by point 9, of the functions of tilldrawer.deeds."""
    functions = {"brought": brought, "fetched": fetched, "in": kind_in, "out": kind_out}
    answers = []
    for word, *told in deeds:
        try:
            change = []
            if word == "paid":
                till, change = paid(till, *told)
            elif word in functions:
                till = functions[word](till, *told)
            else:
                raise errors.NoDeed("no deed")
            answers.append(("done", change))
        except errors.TillError as refusal:
            answers.append((WORDS[type(refusal)], []))
    return till, answers


class Interface(unittest.TestCase):
    def test_the_function_is_defined_in_the_file_that_lists_it(self):
        self.assertEqual(module.day.__module__, "tilldrawer.days")

    def test_the_arguments_have_the_names_that_are_listed(self):
        self.assertEqual(day(till=[(5, 1)], deeds=[("fetched", 5, 1)]), ([(5, 0)], [("done", [])]))


class Day(PromiseCase):
    def check(self, till, deeds, behind, answers):
        told = self.given(day, till, deeds)
        self.assertIs(type(told), tuple)
        self.assertEqual(told, (behind, answers))
        self.check_pairs(told[0])
        self.assertIs(type(told[1]), list)
        for answer in told[1]:
            self.assertIs(type(answer), tuple)
            self.assertIs(type(answer[0]), str)
            self.check_pairs(answer[1])

    def test_no_deeds(self):
        for till in (TILL, TEN_KINDS, [(1, 0)], [(1000, MILLIARD)]):
            self.check(till, [], till, [])

    def test_each_deed_done(self):
        for deed, behind, change in DONE:
            self.check(TILL, [deed], behind, [("done", change)])

    def test_each_deed_refused_by_each_class(self):
        for till, deed, word in REFUSED:
            self.check(till, [deed], till, [(word, [])])

    def test_every_class_but_till_error_refuses_in_a_day(self):
        self.assertEqual({word for _, _, word in REFUSED}, set(WORDS.values()))
        self.assertEqual(len(WORDS), 10)

    def test_another_word(self):
        for deed in NO_DEEDS:
            self.check(TILL, [deed], TILL, [("no deed", [])])
        self.check(TILL, list(NO_DEEDS), TILL, [("no deed", [])] * len(NO_DEEDS))

    def test_what_is_refused_changes_nothing_for_the_deeds_behind_it(self):
        for till, deed, word in REFUSED:
            kind = till[0][0]
            deeds = [("brought", kind, 0), deed, ("fetched", kind, 0), copy.deepcopy(deed)]
            answers = [("done", []), (word, []), ("done", []), (word, [])]
            self.check(till, deeds, till, answers)
        for deed, behind, change in DONE:
            for till, wrong, word in REFUSED:
                if till == TILL:
                    self.check(TILL, [wrong, deed], behind, [(word, []), ("done", change)])

    def test_a_payment_that_is_refused_leaves_none_of_its_pieces(self):
        deeds = [("paid", 1, [10, 10]), ("fetched", 10, 1), ("paid", 40, [20, 10]), ("fetched", 20, 2)]
        answers = [("no change", []), ("too few", []), ("too little", []), ("too few", [])]
        self.check(TILL, deeds, TILL, answers)

    def test_deeds_go_on_from_the_till_ahead_of_them(self):
        deeds = [
            ("in", 2),
            ("brought", 2, 3),
            ("paid", 4, [10]),
            ("fetched", 2, 3),
            ("out", 2),
            ("in", 2),
            ("out", 2),
            ("fetched", 2, 0),
        ]
        answers = [
            ("done", []),
            ("done", []),
            ("done", [(1, 1), (5, 1)]),
            ("done", []),
            ("done", []),
            ("done", []),
            ("done", []),
            ("no kind", []),
        ]
        self.check(TILL, deeds, [(1, 2), (5, 1), (10, 1), (20, 1)], answers)

    def test_24_deeds(self):
        self.assertEqual(len(LONG), 24)
        answers = [
            ("done", [(1, 2), (5, 1)]),
            ("done", []),
            ("done", []),
            ("too few", []),
            ("done", [(2, 2)]),
            ("twice", []),
            ("still held", []),
            ("done", []),
            ("done", []),
            ("no kind", []),
            ("no deed", []),
            ("done", []),
            ("done", [(2, 2), (5, 1)]),
            ("no count", []),
            ("no sum", []),
            ("too little", []),
            ("done", []),
            ("done", []),
            ("still held", []),
            ("done", []),
            ("done", []),
            ("done", []),
            ("no change", []),
            ("no kind", []),
        ]
        self.check(TILL, list(LONG), [(1, 0), (2, 2), (5, 1), (10, 1), (20, 0)], answers)

    def test_24_times_the_same_deed(self):
        self.check([(1, 0)], [("paid", 1, [1]) for _ in range(24)], [(1, 24)], [("done", [])] * 24)
        self.check([(1, 23)], [("fetched", 1, 1)] * 24, [(1, 0)], [("done", [])] * 23 + [("too few", [])])

    def test_the_functions_of_deeds_tell_the_same_one_by_one(self):
        till, answers = one_by_one(TILL, LONG)
        self.check(TILL, list(LONG), till, answers)
        pool = [deed for deed, _, _ in DONE] + [deed for _, deed, _ in REFUSED] + list(LONG)
        for stride in (1, 3, 5, 7, 11, 13, 17, 19, 23, 29):
            for start in range(0, len(pool), 4):
                deeds = [pool[(start + stride * step) % len(pool)] for step in range(24)]
                self.assertEqual(day(TILL, deeds), one_by_one(TILL, deeds))

    def test_a_day_in_two_halves_tells_the_same(self):
        whole = day(TILL, list(LONG))
        for cut in range(len(LONG) + 1):
            noon, morning = day(TILL, list(LONG[:cut]))
            evening, afternoon = day(noon, list(LONG[cut:]))
            self.assertEqual((evening, morning + afternoon), whole)

    def test_each_order_of_some_deeds(self):
        deeds = (("paid", 6, [10]), ("out", 10), ("fetched", 5, 2), ("in", 4), ("brought", 4, 1))
        for order in itertools.permutations(deeds):
            self.assertEqual(day(TILL, list(order)), one_by_one(TILL, order))


class Apart(PromiseCase):
    def test_two_answers_share_no_list(self):
        deeds = [("brought", 1, 0), ("sold",), ("brought", 1, 0), ("sold",), ("paid", 5, [5]), ("paid", 5, [10])]
        behind, answers = day(TILL, deeds)
        self.assertEqual([answer[1] for answer in answers], [[], [], [], [], [], [(5, 1)]])
        for at, (_, change) in enumerate(answers):
            change.append("spoilt")
            for later in answers[at + 1:]:
                self.assertNotIn("spoilt", later[1])
        self.assertEqual(behind, [(1, 3), (5, 2), (10, 1), (20, 1)])

    def test_no_list_is_in_two_places(self):
        for deeds in ([], [("sold",)], [("in", 2)], [("paid", 0, [])], list(LONG)):
            told = lists_in(day(TILL, deeds))
            given = lists_in((TILL, deeds))
            self.assertEqual(len({id(each) for each in told + given}), len(told) + len(given))

    def test_the_till_behind_refused_deeds_is_a_new_one(self):
        for till, deed, _ in REFUSED:
            behind = day(till, [deed])[0]
            self.assertEqual(behind, till)
            self.assertIsNot(behind, till)


if __name__ == "__main__":
    unittest.main()
