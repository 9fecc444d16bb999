"""Chains: the persons to whom a notice goes on."""

import random
import unittest

from hushnotice.errors import BadPerson, BadRules
from hushnotice.walk import chain
from tests.helps import drawn_rules, person, refused


def going_to(*further):
    return tuple(person(wait=1, further=one) for one in further)


class ChainTest(unittest.TestCase):
    def test_the_person_alone(self):
        self.assertEqual(chain(going_to(None), 0), [0])
        self.assertEqual(chain(going_to(1, None, 0), 1), [1])

    def test_up_to_one_that_has_none(self):
        self.assertEqual(chain(going_to(1, 2, 3, 4, 5, None), 0), [0, 1, 2, 3, 4, 5])
        self.assertEqual(chain(going_to(1, 2, 3, 4, 5, None), 4), [4, 5])
        self.assertEqual(chain(going_to(None, 0, 4, 1, 3), 2), [2, 4, 3, 1, 0])

    def test_a_person_that_goes_on_to_itself(self):
        self.assertEqual(chain(going_to(0), 0), [0])
        self.assertEqual(chain(going_to(1, 1), 0), [0, 1])

    def test_rings(self):
        rules = going_to(1, 2, 0)
        self.assertEqual([chain(rules, one) for one in range(3)], [[0, 1, 2], [1, 2, 0], [2, 0, 1]])
        self.assertEqual(chain(going_to(1, 2, 3, 4, 5, 0), 3), [3, 4, 5, 0, 1, 2])

    def test_a_ring_behind_others(self):
        rules = going_to(1, 2, 3, 2)
        self.assertEqual([chain(rules, one) for one in range(4)], [[0, 1, 2, 3], [1, 2, 3], [2, 3], [3, 2]])

    def test_whatever_the_wait_is(self):
        rules = (person(further=1), person(wait=24, further=2), person())
        self.assertEqual(chain(rules, 0), [0, 1, 2])

    def test_by_the_one_ahead(self):
        chance = random.Random(7)
        for _ in range(300):
            rules = drawn_rules(chance)
            for one in range(len(rules)):
                told = chain(rules, one)
                self.assertEqual(told[0], one)
                self.assertEqual(len(set(told)), len(told))
                for ahead, behind in zip(told, told[1:]):
                    self.assertEqual(rules[ahead][4], behind)
                self.assertIn(rules[told[-1]][4], [None, *told])

    def test_what_is_told_may_be_changed(self):
        rules = going_to(1, None)
        chain(rules, 0).clear()
        self.assertEqual(chain(rules, 0), [0, 1])
        self.assertIs(type(chain(rules, 0)), list)

    def test_bad_persons(self):
        for many in range(1, 7):
            rules = going_to(*[None] * many)
            chain(rules, many - 1)
            for bad in (many, -1, 100, None, True, False, "", "0", (), (0,), [], [0]):
                with self.subTest(many=many, bad=bad):
                    refused(self, BadPerson, chain, rules, bad)

    def test_rules_come_ahead_of_persons(self):
        for one in (0, 9, None):
            error = refused(self, BadRules, chain, (person(), person(least=5)), one)
            self.assertEqual((error.person, error.part), (1, 1))


if __name__ == "__main__":
    unittest.main()
