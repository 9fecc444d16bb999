"""BadRules: which person and which part, as each function that takes rules refuses them."""

import copy
import unittest

from hushnotice import rules as hours
from hushnotice.errors import BadRules
from hushnotice.notes import written
from hushnotice.walk import chain, walked, wheeled
from tests.helps import person, refused

FINE = person()
CALLS = (
    (hours.is_hushed, (0, 0)),
    (hours.free_from, (0, 0)),
    (hours.hushed_between, (0, 0, 5)),
    (walked, ([],)),
    (wheeled, ([],)),
    (chain, (0,)),
    (written, ([],)),
)
# Of each kind that a refusal may get, none being a whole number, a tuple or None.
NEVER = ("", "1", "abcde", [], [1], [1, 2], True, False)
NO_NUMBERS = NEVER + ((), (1,), (1, 2))
HUSHED, LEAST, GATHER, WAIT, FURTHER = range(5)


class RefusalTest(unittest.TestCase):
    def check(self, rules, bad_person, bad_part):
        for call, rest in CALLS:
            with self.subTest(call=call.__name__, rules=rules):
                before = copy.deepcopy(rules)
                error = refused(self, BadRules, call, rules, *rest)
                self.assertEqual((error.person, error.part), (bad_person, bad_part))
                self.assertEqual(rules, before)

    def check_each(self, part, worths):
        """Each of these worths of a part is refused, whoever has it, with worse ones behind it."""
        for worth in worths:
            row = list(FINE)
            row[part] = worth
            self.check((tuple(row),), 0, part)
            self.check((FINE, FINE, tuple(row), FINE), 2, part)
            for later in range(part + 1, 5):
                row[later] = "worse"
            self.check((FINE, tuple(row), "worse"), 1, part)

    def check_fine(self, *rows):
        for call, rest in CALLS:
            with self.subTest(call=call.__name__, rows=rows):
                call(rows, *rest)


class PersonsTest(RefusalTest):
    def test_one_to_six_persons_can_be(self):
        for many in range(1, 7):
            self.check_fine(*(FINE,) * many)

    def test_none(self):
        self.check((), 0, -1)

    def test_no_tuple(self):
        for rules in (None, 0, 5, "abcde", True, False, [], [FINE], [FINE, FINE]):
            self.check(rules, 0, -1)

    def test_a_seventh(self):
        self.check((FINE,) * 7, 6, -1)
        self.check((FINE,) * 8, 6, -1)
        self.check((FINE,) * 6 + ("worse",), 6, -1)
        self.check((FINE,) * 6 + (person(least=9),), 6, -1)

    def test_one_ahead_of_a_seventh_comes_first(self):
        self.check((FINE,) * 5 + (person(wait=0), FINE), 5, WAIT)
        self.check((FINE, ()) + (FINE,) * 5, 1, -1)

    def test_a_seventh_is_nobodys_further(self):
        self.check((FINE, person(further=6)) + (FINE,) * 5, 1, FURTHER)

    def test_a_person_is_a_tuple_of_five_things(self):
        for row in (None, 5, True, "abcde", [], list(FINE), (), FINE[:4], FINE + (None,), (FINE,)):
            self.check((row,), 0, -1)
            self.check((FINE, FINE, row, "worse"), 2, -1)
        # Too short, though what is there can't be either.
        self.check((FINE, ("worse",)), 1, -1)

    def test_the_first_person_comes_ahead_of_a_worse_part_of_another(self):
        self.check((FINE, person(further=9), person(hushed=None), "worse"), 1, FURTHER)
        self.check((person(wait=0), ()), 0, WAIT)


class HushedTest(RefusalTest):
    def test_up_to_three_stretches_can_be(self):
        self.check_fine(person(()), person(((0, 23),)), person(((23, 0), (22, 0))))
        self.check_fine(person(((1, 2), (2, 3), (3, 4))), person(((5, 9), (4, 6), (5, 9))))

    def test_four_stretches(self):
        self.check_each(HUSHED, [((1, 2), (3, 4), (5, 6), (7, 8)), ((1, 2),) * 4])

    def test_no_tuple(self):
        self.check_each(HUSHED, NEVER + (None, 0, 7, [(1, 2)]))

    def test_no_pairs(self):
        for bad in NEVER + (None, 3, (), (1,), (1, 2, 3), "12", [1, 2], ((1, 2),)):
            self.check_each(HUSHED, [(bad,), ((1, 2), bad), ((1, 2), (3, 4), bad)])
        self.check_each(HUSHED, [(1, 2)])

    def test_no_hours(self):
        for bad in NO_NUMBERS + (None, -1, 24, 25, 1000000):
            self.check_each(HUSHED, [((bad, 5),), ((5, bad),), ((1, 2), (3, 4), (5, bad))])

    def test_like_hours(self):
        self.check_each(HUSHED, [((hour, hour),) for hour in range(24)])
        self.check_each(HUSHED, [((1, 2), (3, 3))])


class LeastTest(RefusalTest):
    def test_0_to_4_can_be(self):
        self.check_fine(*[person(least=least) for least in range(5)])

    def test_others(self):
        self.check_each(LEAST, NO_NUMBERS + (None, -1, 5, 100))


class GatherTest(RefusalTest):
    def test_up_to_four_kinds_can_be(self):
        self.check_fine(person(gather=()), person(gather=((0, 1),)), person(gather=((7, 12),)))
        self.check_fine(person(gather=((0, 12), (1, 1))), person(gather=((0, 1), (3, 5), (7, 2))))
        self.check_fine(person(gather=((4, 1), (5, 2), (6, 3), (7, 4))), person(gather=((0, 1), (7, 1))))

    def test_five_kinds(self):
        self.check_each(GATHER, [tuple((kind, 1) for kind in range(5))])

    def test_no_tuple(self):
        self.check_each(GATHER, NEVER + (None, 0, 7, [(1, 2)]))

    def test_no_pairs(self):
        for bad in NEVER + (None, 3, (), (5,), (5, 2, 3), "52", [5, 2], ((5, 2),)):
            self.check_each(GATHER, [(bad,), ((1, 2), bad), ((0, 1), (1, 2), (2, 3), bad)])
        self.check_each(GATHER, [(1, 2)])

    def test_no_kinds(self):
        for bad in NO_NUMBERS + (None, -1, 8, 100):
            self.check_each(GATHER, [((bad, 5),), ((0, 5), (bad, 5))])

    def test_kinds_that_do_not_rise(self):
        self.check_each(GATHER, [((0, 1), (0, 1)), ((7, 1), (7, 2)), ((3, 1), (2, 1)), ((7, 1), (0, 1))])
        self.check_each(GATHER, [((1, 1), (3, 1), (2, 1)), ((0, 1), (1, 1), (5, 1), (5, 1))])

    def test_no_spans(self):
        for bad in NO_NUMBERS + (None, -1, 0, 13, 100):
            self.check_each(GATHER, [((5, bad),), ((0, 5), (5, bad))])


class WaitTest(RefusalTest):
    def test_1_to_24_and_none_can_be(self):
        for wait in (None, *range(1, 25)):
            self.check_fine(person(wait=wait), FINE)

    def test_others(self):
        self.check_each(WAIT, NO_NUMBERS + (-1, 0, 25, 100))


class FurtherTest(RefusalTest):
    def test_each_person_and_none_can_be(self):
        for many in range(1, 7):
            for further in (None, *range(many)):
                self.check_fine(*(person(further=further),) * many)

    def test_others(self):
        self.check_each(FURTHER, NO_NUMBERS + (-1, 6, 100))

    def test_the_one_behind_the_last_person(self):
        for many in range(1, 7):
            rows = [FINE] * many
            rows[many - 1] = person(further=many)
            self.check(tuple(rows), many - 1, FURTHER)

    def test_true_and_false_are_no_persons(self):
        self.check((FINE, person(further=True)), 1, FURTHER)
        self.check((person(further=False), FINE), 0, FURTHER)


if __name__ == "__main__":
    unittest.main()
