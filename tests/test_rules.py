"""Hushed hours: is_hushed, free_from, hushed_between."""

import unittest

from hushnotice import rules as hours
from hushnotice.errors import BadMoment, BadPerson, BadRules
from hushnotice.rules import free_from, hushed_between, is_hushed
from tests.helps import person, refused

LAST = 1000000
WHOLE_DAY = ((0, 12), (12, 0))
NO_NUMBERS = (None, True, False, "", "0", "1", (), (0,), (1, 2), [], [0])
STRETCHES = (
    (), ((0, 1),), ((23, 0),), ((22, 0),), ((0, 23),), ((1, 0),), ((22, 6),), ((23, 1),), ((9, 17),),
    ((9, 12), (12, 17)), ((9, 14), (12, 17)), ((12, 17), (9, 13)), ((9, 17), (11, 12)), ((5, 6), (5, 6)),
    ((22, 2), (1, 6)), ((22, 0), (0, 6)), ((1, 3), (5, 7), (9, 11)), ((20, 3), (22, 5), (4, 8)),
    WHOLE_DAY, ((0, 8), (8, 16), (16, 0)), ((5, 4), (4, 5)), ((6, 20), (18, 8)), ((5, 4), (3, 6)),
)


def walked_hours(hushed):
    """The hushed hours, by walking from each begin to its end, one hour after the other."""
    found = set()
    for begin, end in hushed:
        while begin != end:
            found.add(begin)
            begin = (begin + 1) % 24
    return found


class IsHushedTest(unittest.TestCase):
    def hushed_at(self, hushed):
        return [hour for hour in range(24) if is_hushed((person(hushed),), 0, hour)]

    def test_from_begin_on_and_ahead_of_end(self):
        self.assertEqual(self.hushed_at(((9, 12),)), [9, 10, 11])
        self.assertEqual(self.hushed_at(((0, 1),)), [0])
        self.assertEqual(self.hushed_at(((0, 23),)), list(range(23)))

    def test_no_stretches(self):
        self.assertEqual(self.hushed_at(()), [])

    def test_end_at_0(self):
        self.assertEqual(self.hushed_at(((22, 0),)), [22, 23])
        self.assertEqual(self.hushed_at(((23, 0),)), [23])
        self.assertEqual(self.hushed_at(((1, 0),)), list(range(1, 24)))

    def test_over_midnight(self):
        self.assertEqual(self.hushed_at(((22, 3),)), [0, 1, 2, 22, 23])
        self.assertEqual(self.hushed_at(((13, 12),)), [*range(12), *range(13, 24)])

    def test_stretches_that_meet_or_overlap(self):
        self.assertEqual(self.hushed_at(((9, 11), (11, 13))), [9, 10, 11, 12])
        self.assertEqual(self.hushed_at(((11, 14), (9, 12))), [9, 10, 11, 12, 13])
        self.assertEqual(self.hushed_at(((22, 0), (0, 2))), [0, 1, 22, 23])
        self.assertEqual(self.hushed_at(((1, 2), (3, 4), (5, 6))), [1, 3, 5])

    def test_the_whole_day(self):
        self.assertEqual(self.hushed_at(WHOLE_DAY), list(range(24)))
        self.assertEqual(self.hushed_at(((5, 4), (4, 5))), list(range(24)))

    def test_each_day_is_like_the_first(self):
        for hushed in STRETCHES:
            walked = walked_hours(hushed)
            for moment in (*range(75), *range(LAST - 50, LAST + 1)):
                with self.subTest(hushed=hushed, moment=moment):
                    self.assertIs(is_hushed((person(hushed),), 0, moment), moment % 24 in walked)

    def test_the_first_and_the_last_moment(self):
        rules = (person(((0, 1),)), person(((16, 17),)), person(((15, 16),)), person(((17, 18),)))
        self.assertEqual([is_hushed(rules, one, 0) for one in range(4)], [True, False, False, False])
        self.assertEqual([is_hushed(rules, one, LAST) for one in range(4)], [False, True, False, False])

    def test_of_the_person_asked_for(self):
        rules = tuple(person(((hour, hour + 1),)) for hour in range(6))
        for one in range(6):
            self.assertEqual([hour for hour in range(24) if is_hushed(rules, one, hour)], [one])

    def test_other_parts_change_nothing(self):
        rules = (((9, 10),), 4, ((0, 1), (7, 12)), 24, 0), (((9, 10),), 0, (), 1, 0)
        for one in (0, 1):
            self.assertIs(is_hushed(rules, one, 9), True)
            self.assertIs(is_hushed(rules, one, 10), False)


class FreeFromTest(unittest.TestCase):
    def test_the_moment_itself_if_it_is_free(self):
        rules = (person(((22, 6),)), person())
        self.assertEqual(free_from(rules, 0, 6), 6)
        self.assertEqual(free_from(rules, 0, 21), 21)
        self.assertEqual(free_from(rules, 1, 0), 0)
        self.assertEqual(free_from(rules, 1, LAST), LAST)

    def test_the_end_if_it_is_hushed(self):
        rules = (person(((22, 6),)), person(((9, 11), (11, 13))), person(((22, 0),)))
        self.assertEqual(free_from(rules, 0, 22), 30)
        self.assertEqual(free_from(rules, 0, 5), 6)
        self.assertEqual(free_from(rules, 1, 9), 13)
        self.assertEqual(free_from(rules, 2, 23), 24)

    def test_one_free_hour(self):
        rules = (person(((1, 0),)), person(((0, 23),)))
        self.assertEqual(free_from(rules, 0, 1), 24)
        self.assertEqual(free_from(rules, 1, 0), 23)
        self.assertEqual(free_from(rules, 1, 24), 47)

    def test_none_if_it_always_is_hushed(self):
        for hushed in (WHOLE_DAY, ((5, 4), (4, 5)), ((6, 20), (18, 8))):
            for moment in (0, 5, 12, 23, 24, LAST):
                self.assertIsNone(free_from((person(hushed),), 0, moment))

    def test_behind_the_last_moment(self):
        # LAST is at hour 16.
        self.assertEqual(free_from((person(((16, 17),)),), 0, LAST), LAST + 1)
        self.assertEqual(free_from((person(((16, 15),)),), 0, LAST), LAST + 23)

    def test_by_walking(self):
        for hushed in STRETCHES:
            walked = walked_hours(hushed)
            for moment in (*range(75), *range(LAST - 30, LAST + 1)):
                free = [later for later in range(moment, moment + 24) if later % 24 not in walked]
                with self.subTest(hushed=hushed, moment=moment):
                    self.assertEqual(free_from((person(hushed),), 0, moment), free[0] if free else None)


class HushedBetweenTest(unittest.TestCase):
    def test_within_a_day(self):
        rules = (person(((9, 12),)),)
        self.assertEqual(hushed_between(rules, 0, 0, 24), 3)
        self.assertEqual(hushed_between(rules, 0, 10, 11), 1)
        self.assertEqual(hushed_between(rules, 0, 9, 12), 3)
        self.assertEqual(hushed_between(rules, 0, 8, 9), 0)
        self.assertEqual(hushed_between(rules, 0, 12, 20), 0)

    def test_from_the_one_on_and_ahead_of_the_other(self):
        rules = (person(((5, 6),)),)
        self.assertEqual(hushed_between(rules, 0, 5, 6), 1)
        self.assertEqual(hushed_between(rules, 0, 4, 5), 0)
        self.assertEqual(hushed_between(rules, 0, 6, 29), 0)
        self.assertEqual(hushed_between(rules, 0, 6, 30), 1)

    def test_overlaps_count_once(self):
        rules = (person(((9, 13), (11, 15), (9, 13))),)
        self.assertEqual(hushed_between(rules, 0, 0, 24), 6)

    def test_0_if_the_other_is_not_later(self):
        rules = (person(WHOLE_DAY),)
        for begin, end in ((0, 0), (7, 7), (LAST, LAST), (8, 7), (30, 6), (LAST, 0)):
            self.assertEqual(hushed_between(rules, 0, begin, end), 0)

    def test_moments_that_are_far_apart(self):
        # LAST is 41,666 days and 16 hours.
        rules = (person(), person(WHOLE_DAY), person(((22, 6),)), person(((15, 17),)))
        told = [hushed_between(rules, one, 0, LAST) for one in range(4)]
        self.assertEqual(told, [0, LAST, 41666 * 8 + 6, 41666 * 2 + 1])
        self.assertEqual(hushed_between(rules, 2, 23, LAST - 1), 41666 * 8 + 6 - 7)

    def test_by_walking(self):
        ends = (*range(0, 80, 3), 23, 24, 25, 47, 48, 49)
        for hushed in STRETCHES:
            walked = walked_hours(hushed)
            for begin in (0, 1, 5, 11, 12, 22, 23, 24, 25, 40):
                for end in ends:
                    many = len([at for at in range(begin, end) if at % 24 in walked])
                    with self.subTest(hushed=hushed, begin=begin, end=end):
                        self.assertEqual(hushed_between((person(hushed),), 0, begin, end), many)


class KindsTest(unittest.TestCase):
    def test_kinds_of_what_is_told(self):
        rules = (person(((22, 6),)), person(WHOLE_DAY))
        self.assertIs(type(is_hushed(rules, 0, 0)), bool)
        self.assertIs(type(is_hushed(rules, 0, 12)), bool)
        self.assertIs(type(free_from(rules, 0, 0)), int)
        for end in (0, 1, 2, 30, LAST):
            self.assertIs(type(hushed_between(rules, 0, 1, end)), int)
            self.assertIs(type(hushed_between(rules, 1, 0, end)), int)

    def test_asked_again_the_same_is_told(self):
        rules, other = (person(((22, 6),)),), (person(((6, 22),)),)
        for _ in range(3):
            self.assertIs(is_hushed(rules, 0, 23), True)
            self.assertIs(is_hushed(other, 0, 23), False)
            self.assertEqual(free_from(rules, 0, 23), 30)
            self.assertEqual(free_from(other, 0, 7), 22)
            self.assertEqual(hushed_between(rules, 0, 0, 48), 16)
            self.assertEqual(hushed_between(other, 0, 0, 48), 32)
            refused(self, BadPerson, is_hushed, rules, 1, 23)

    def test_each_is_defined_in_the_listed_file(self):
        for name in ("is_hushed", "free_from", "hushed_between"):
            self.assertEqual(getattr(hours, name).__module__, "hushnotice.rules")


class RefusalTest(unittest.TestCase):
    RULES = (person(((22, 6),)), person(WHOLE_DAY))
    CALLS = ((is_hushed, (0,)), (free_from, (0,)), (hushed_between, (0, 5)))

    def test_bad_persons(self):
        for bad in NO_NUMBERS + (-1, 2, 6, LAST):
            for call, rest in self.CALLS:
                with self.subTest(call=call.__name__, bad=bad):
                    refused(self, BadPerson, call, self.RULES, bad, *rest)

    def test_the_person_behind_the_last(self):
        for many in range(1, 7):
            rules = (person(),) * many
            for call, rest in self.CALLS:
                call(rules, many - 1, *rest)
                refused(self, BadPerson, call, rules, many, *rest)

    def test_bad_moments(self):
        for bad in NO_NUMBERS + (-1, LAST + 1, LAST * 24):
            with self.subTest(bad=bad):
                for one in (0, 1):
                    refused(self, BadMoment, is_hushed, self.RULES, one, bad)
                    refused(self, BadMoment, free_from, self.RULES, one, bad)
                    refused(self, BadMoment, hushed_between, self.RULES, one, bad, 5)
                    refused(self, BadMoment, hushed_between, self.RULES, one, 5, bad)
                    refused(self, BadMoment, hushed_between, self.RULES, one, bad, bad)

    def test_bad_moments_where_the_other_is_not_later(self):
        refused(self, BadMoment, hushed_between, self.RULES, 0, LAST + 1, 0)
        refused(self, BadMoment, hushed_between, self.RULES, 0, 0, -1)

    def test_the_edges_are_moments(self):
        for moment in (0, LAST):
            is_hushed(self.RULES, 0, moment)
            free_from(self.RULES, 0, moment)
            hushed_between(self.RULES, 0, moment, moment)

    def test_rules_come_ahead_of_persons_and_moments(self):
        for call, rest in ((is_hushed, (-1,)), (free_from, (-1,)), (hushed_between, (-1, -1))):
            for one in (0, 9, None):
                error = refused(self, BadRules, call, (person(), person(wait=0)), one, *rest)
                self.assertEqual((error.person, error.part), (1, 3))

    def test_rules_are_judged_whole_whoever_is_asked_for(self):
        for call, rest in self.CALLS:
            error = refused(self, BadRules, call, (person(), "worse"), 0, *rest)
            self.assertEqual((error.person, error.part), (1, -1))

    def test_persons_come_ahead_of_moments(self):
        for bad in (-1, 2, True, None, "0"):
            refused(self, BadPerson, is_hushed, self.RULES, bad, -1)
            refused(self, BadPerson, free_from, self.RULES, bad, None)
            refused(self, BadPerson, hushed_between, self.RULES, bad, -1, 5)
            refused(self, BadPerson, hushed_between, self.RULES, bad, 5, "5")
            refused(self, BadPerson, hushed_between, self.RULES, bad, True, False)


if __name__ == "__main__":
    unittest.main()
