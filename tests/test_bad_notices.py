"""BadNotices, BadHears, and BadMoment of walks: what can't be, and in which order it is refused."""

import copy
import unittest

from hushnotice.errors import BadHears, BadMoment, BadNotices, BadRules
from hushnotice.notes import written
from hushnotice.walk import walked, wheeled
from tests.helps import person, refused

RULES = (person(wait=2, further=1), person())
FINE = (0, 0, 0, 5)
WALKS = (walked, wheeled)
# Of each kind that a refusal may get, none being a whole number, a tuple or None.
NEVER = ("", "1", "abc", "abcd", [], [1], [1, 2], True, False)
NO_NUMBERS = NEVER + (None, (), (1,), (1, 2))


class NoticesTest(unittest.TestCase):
    def check(self, notices, number, rules=RULES):
        before = copy.deepcopy(notices)
        for call in (*WALKS, written):
            with self.subTest(call=call.__name__, notices=notices):
                self.assertEqual(refused(self, BadNotices, call, rules, notices).number, number)
                self.assertEqual(notices, before)

    def check_fine(self, notices, rules=RULES):
        for call in (*WALKS, written):
            call(rules, notices)

    def check_each(self, part, worths):
        """Each of these worths of a part is refused, with fine ones ahead of it, and worse behind."""
        for worth in worths:
            row = list(FINE)
            row[part] = worth
            self.check([tuple(row)], 0)
            self.check([FINE, FINE, tuple(row), FINE], 2)
            self.check([FINE, tuple(row), "worse"], 1)

    def test_up_to_30_can_be(self):
        self.check_fine([])
        self.check_fine([FINE] * 29)
        self.check_fine([FINE] * 30)

    def test_a_31st(self):
        self.check([FINE] * 31, 30)
        self.check([FINE] * 40, 30)
        self.check([FINE] * 30 + ["worse"], 30)

    def test_one_ahead_of_a_31st_comes_first(self):
        self.check([FINE] * 29 + ["worse", FINE], 29)
        self.check(["worse"] + [FINE] * 30, 0)

    def test_no_list(self):
        for notices in (None, 0, 5, True, False, "", "abcd", (), (FINE,), (FINE, "worse"), FINE):
            self.check(notices, 0)

    def test_a_notice_is_a_tuple_of_four_things(self):
        for row in NEVER + (None, 5, list(FINE), (), FINE[:3], FINE + (5,), (FINE,)):
            self.check([row], 0)
            self.check([FINE, FINE, row, "worse"], 2)

    def test_edges_that_can_be(self):
        self.check_fine([(1, 3, 7, 300)])
        self.check_fine([(0, 0, 0, 0)])
        for rank in range(4):
            for kind in range(8):
                self.check_fine([(1, rank, kind, 0), (0, rank, kind, 300)])

    def test_persons(self):
        self.check_each(0, NO_NUMBERS + (-1, 2, 6, 100))

    def test_persons_of_these_rules(self):
        for many in range(1, 7):
            rules = (person(),) * many
            self.check_fine([(many - 1, 0, 0, 0)], rules)
            self.check([(many - 1, 0, 0, 0), (many, 0, 0, 0)], 1, rules)

    def test_ranks(self):
        self.check_each(1, NO_NUMBERS + (-1, 4, 100))

    def test_kinds(self):
        self.check_each(2, NO_NUMBERS + (-1, 8, 100))

    def test_births(self):
        self.check_each(3, NO_NUMBERS + (-1, 301, 600, 1000))

    def test_births_that_fall(self):
        self.check([(0, 0, 0, 5), (0, 0, 0, 4)], 1)
        self.check([(0, 0, 0, 5), (0, 0, 0, 5), (0, 0, 0, 300), (0, 0, 0, 299), (0, 0, 0, 301)], 3)
        self.check([(0, 0, 0, 1), (0, 0, 0, 0)], 1)
        self.check_fine([(0, 0, 0, 0), (0, 0, 0, 0), (0, 0, 0, 300), (1, 0, 0, 300)])


class HearsTest(unittest.TestCase):
    NOTICES = [(0, 0, 0, 0), (1, 0, 0, 300)]
    FINE = (5, 0, 0)

    def check(self, hears, number, rules=RULES, notices=NOTICES):
        before = copy.deepcopy(hears)
        for call in WALKS:
            with self.subTest(call=call.__name__, hears=hears):
                self.assertEqual(refused(self, BadHears, call, rules, notices, hears=hears).number, number)
                self.assertEqual(hears, before)

    def check_fine(self, hears, rules=RULES, notices=NOTICES):
        for call in WALKS:
            call(rules, notices, hears=hears)
            call(rules, notices, hears=tuple(hears))

    def check_each(self, part, worths):
        """Each of these worths of a part is refused, with fine ones ahead of it, and worse behind."""
        for worth in worths:
            row = list(self.FINE)
            row[part] = worth
            self.check([tuple(row)], 0)
            self.check((tuple(row),), 0)
            self.check([self.FINE, self.FINE, tuple(row), self.FINE], 2)
            self.check((self.FINE, tuple(row), "worse"), 1)

    def test_up_to_60_can_be(self):
        self.check_fine([])
        self.check_fine([self.FINE] * 59)
        self.check_fine([self.FINE] * 60)

    def test_a_61st(self):
        self.check([self.FINE] * 61, 60)
        self.check((self.FINE,) * 61, 60)
        self.check([self.FINE] * 80, 60)
        self.check([self.FINE] * 60 + ["worse"], 60)

    def test_one_ahead_of_a_61st_comes_first(self):
        self.check([self.FINE] * 59 + ["worse", self.FINE], 59)
        self.check(["worse"] + [self.FINE] * 60, 0)

    def test_no_list_and_no_tuple(self):
        for hears in (None, 0, 5, True, False, "", "abc"):
            self.check(hears, 0)

    def test_a_hear_is_a_tuple_of_three_things(self):
        for row in NEVER + (None, 5, list(self.FINE), (), self.FINE[:2], self.FINE + (0,), (self.FINE,)):
            self.check([row], 0)
            self.check([self.FINE, self.FINE, row, "worse"], 2)
        # A hear itself is a tuple of things that are no tuples.
        self.check(self.FINE, 0)

    def test_edges_that_can_be(self):
        self.check_fine([(0, 0, 0), (0, 1, 1), (600, 0, 0), (600, 1, 1)])

    def test_moments(self):
        self.check_each(0, NO_NUMBERS + (-1, 601, 1000))

    def test_moments_that_fall(self):
        self.check([(5, 0, 0), (4, 0, 0)], 1)
        self.check([(5, 0, 0), (5, 0, 0), (600, 0, 0), (599, 0, 0), (601, 0, 0)], 3)
        self.check(((1, 0, 0), (0, 0, 0)), 1)

    def test_persons(self):
        self.check_each(1, NO_NUMBERS + (-1, 2, 6, 100))

    def test_persons_of_these_rules(self):
        for many in range(1, 7):
            rules = (person(),) * many
            self.check_fine([(5, many - 1, 0)], rules, [FINE])
            self.check([(5, many - 1, 0), (5, many, 0)], 1, rules, [FINE])

    def test_notices(self):
        self.check_each(2, NO_NUMBERS + (-1, 2, 30, 100))

    def test_notices_of_these_notices(self):
        for many in (1, 2, 29, 30):
            self.check_fine([(5, 0, many - 1)], RULES, [FINE] * many)
            self.check([(5, 0, many - 1), (5, 0, many)], 1, RULES, [FINE] * many)
        self.check([(5, 0, 0)], 0, RULES, [])
        self.check_fine([], RULES, [])


class UntilTest(unittest.TestCase):
    def test_0_to_600_can_be(self):
        for call in WALKS:
            for until in (0, 1, 599, 600):
                call(RULES, [FINE], until=until)

    def test_others(self):
        for call in WALKS:
            for until in NO_NUMBERS + (-1, 601, 1000000):
                with self.subTest(call=call.__name__, until=until):
                    refused(self, BadMoment, call, RULES, [FINE], until=until)


class OrderTest(unittest.TestCase):
    """What is handed in first is refused first."""

    BAD_RULES = (person(), person(wait=0))

    def test_rules_come_ahead_of_all_else(self):
        for call in WALKS:
            for notices in ([], ["worse"], None):
                for more in ({}, {"until": -1}, {"hears": 5}, {"hears": ["worse"], "until": None}):
                    error = refused(self, BadRules, call, self.BAD_RULES, notices, **more)
                    self.assertEqual((error.person, error.part), (1, 3))
        for notices in ([], ["worse"], None):
            error = refused(self, BadRules, written, self.BAD_RULES, notices)
            self.assertEqual((error.person, error.part), (1, 3))

    def test_notices_come_ahead_of_hears_and_until(self):
        for call in WALKS:
            for more in ({"until": -1}, {"hears": 5}, {"until": None, "hears": ["worse"]}):
                error = refused(self, BadNotices, call, RULES, [FINE, "worse"], **more)
                self.assertEqual(error.number, 1)

    def test_hears_come_ahead_of_until(self):
        for call in WALKS:
            error = refused(self, BadHears, call, RULES, [FINE], hears=[(5, 0, 0), 5], until=-1)
            self.assertEqual(error.number, 1)
            error = refused(self, BadHears, call, RULES, [FINE], until=601, hears=[(5, 0, 1)])
            self.assertEqual(error.number, 0)

    def test_hears_behind_until_are_judged_too(self):
        for call in WALKS:
            error = refused(self, BadHears, call, RULES, [FINE], hears=[(5, 0, 0), (9, 0, 1)], until=3)
            self.assertEqual(error.number, 1)


if __name__ == "__main__":
    unittest.main()
