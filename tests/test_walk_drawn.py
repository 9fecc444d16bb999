"""Walks over many drawn inputs: beside another way to find the same, and by what holds of all."""

import random
import unittest

from hushnotice.walk import chain, walked, wheeled
from tests.helps import drawn_hears, drawn_notices, drawn_rules

MANY = 400


def is_free(rules, one, moment):
    hour = moment % 24
    for begin, end in rules[one][0]:
        if (hour - begin) % 24 < (end - begin) % 24:
            return False
    return True


def together(rules, notices, comes):
    """What is ready together: from which moment on, of whom, and the ranks by notices.

    It is found anew from all that came, in turn."""
    found = []
    begun = {}
    for moment, number, one, rank in comes:
        kind = notices[number][2]
        spans = [span for gathered, span in rules[one][2] if gathered == kind]
        if rank == 3 or not spans:
            found.append((moment, one, {number: rank}))
        elif (one, kind) in begun and moment < begun[one, kind][0]:
            begun[one, kind][2][number] = rank
        else:
            begun[one, kind] = (moment + spans[0], one, {number: rank})
            found.append(begun[one, kind])
    return found


class Telling:
    """The walk by lists of what came, was told, heard and given up."""

    def __init__(self, rules, notices):
        self.rules, self.notices = rules, notices
        self.comes, self.told, self.heard, self.given_up = [], [], {}, set()

    def told_of(self, number):
        return [(moment, one) for moment, one, numbers in self.told if number in numbers]

    def go_on(self, now):
        for number in range(len(self.notices)):
            told = self.told_of(number)
            if not told or number in self.heard:
                continue
            moment, one = told[-1]
            wait, further = self.rules[one][3:]
            if wait is None or moment + wait != now:
                continue
            went = [(who, rank) for _, other, who, rank in self.comes if other == number]
            if further is None or further in [who for who, _ in went]:
                self.given_up.add(number)
            else:
                self.comes.append((now, number, further, min(3, went[-1][1] + 1)))

    def tell(self, now):
        for moment, one, ranks in together(self.rules, self.notices, self.comes):
            left = {number: rank for number, rank in ranks.items() if number not in self.heard}
            if now < moment or not left or one in [who for number in left for _, who in self.told_of(number)]:
                continue
            if is_free(self.rules, one, now) or max(left.values()) >= self.rules[one][1]:
                self.told.append((now, one, tuple(sorted(left))))

    def pass_moment(self, now, hears):
        for moment, one, number in hears:
            if moment == now and number not in self.heard and one in [who for _, who in self.told_of(number)]:
                self.heard[number] = (one, now)
        self.go_on(now)
        for number, (one, rank, _, born) in enumerate(self.notices):
            if born == now:
                self.comes.append((now, number, one, rank))
        self.tell(now)

    def fate(self, number):
        if number in self.heard:
            return ("heard", *self.heard[number])
        if number in self.given_up:
            return ("given up",)
        went = [one for _, other, one, _ in self.comes if other == number]
        return ("open", went[-1]) if went else ("unborn",)


def expected(rules, notices, hears, until):
    telling = Telling(rules, notices)
    for now in range(until + 1):
        telling.pass_moment(now, hears)
    return sorted(telling.told), [telling.fate(number) for number in range(len(notices))]


def drawn(seed):
    chance = random.Random(seed)
    rules = drawn_rules(chance)
    notices = drawn_notices(chance, len(rules))
    hears = drawn_hears(chance, rules, notices)
    until = chance.choice((0, 10, 50, 120, 300, chance.randint(0, 600), 600))
    return rules, notices, hears, until


class DrawnTest(unittest.TestCase):
    def test_another_way_tells_the_same(self):
        for seed in range(MANY // 2):
            rules, notices, hears, until = drawn(seed)
            # This way is slow, and late moments are like early ones.
            until = min(until, 200)
            with self.subTest(seed=seed):
                self.assertEqual(
                    walked(rules, notices, hears=hears, until=until),
                    expected(rules, notices, hears, until),
                )

    def test_wheeled_tells_what_walked_does(self):
        for seed in range(MANY):
            rules, notices, hears, until = drawn(seed)
            with self.subTest(seed=seed):
                told = walked(rules, notices, hears=hears, until=until)
                self.assertEqual(wheeled(rules, notices, hears=hears, until=until), told)
                self.assertEqual(walked(rules, notices, hears=hears, until=until), told)
                self.assertEqual(wheeled(rules, notices, hears=hears), walked(rules, notices, hears=hears))

    def test_a_shorter_walk_tells_the_begin_of_a_longer_one(self):
        for seed in range(MANY // 4):
            rules, notices, hears, until = drawn(seed)
            longer = walked(rules, notices, hears=hears)[0]
            shorter = walked(rules, notices, hears=hears, until=until)[0]
            self.assertEqual(shorter, [row for row in longer if row[0] <= until])

    def test_what_holds_of_all(self):
        for seed in range(MANY):
            rules, notices, hears, until = drawn(seed)
            with self.subTest(seed=seed):
                rows, fates = walked(rules, notices, hears=hears, until=until)
                self.assertEqual(rows, sorted(rows))
                self.assertEqual(len(fates), len(notices))
                for moment, one, numbers in rows:
                    self.assertTrue(0 <= moment <= until)
                    self.assertTrue(numbers)
                    self.assertEqual(list(numbers), sorted(set(numbers)))
                    self.check_hush(rules, notices, moment, one, numbers)
                for number in range(len(notices)):
                    self.check_notice(rules, notices[number], number, rows, fates[number])

    def check_hush(self, rules, notices, moment, one, numbers):
        if is_free(rules, one, moment):
            return
        ranks = []
        for number in numbers:
            first, rank, _, _ = notices[number]
            ranks.append(min(3, rank + chain(rules, first).index(one)))
        self.assertGreaterEqual(max(ranks), rules[one][1])

    def check_notice(self, rules, notice, number, rows, fate):
        told = [(moment, one) for moment, one, numbers in rows if number in numbers]
        persons = [one for _, one in told]
        turn = chain(rules, notice[0])
        self.assertEqual(persons, turn[:len(persons)])
        for moment, _ in told:
            self.assertGreaterEqual(moment, notice[3])
        if fate[0] == "heard":
            _, one, heard_at = fate
            self.assertIn(one, persons)
            for moment, _ in told:
                self.assertLess(moment, heard_at)
        if fate[0] == "unborn":
            self.assertEqual(told, [])
        if fate[0] == "given up":
            self.assertEqual(persons, turn)

    def test_the_draws_reach_each_fate(self):
        fates = [fate[0] for seed in range(MANY) for fate in walked(*drawn(seed)[:2], hears=drawn(seed)[2])[1]]
        for word in ("open", "heard", "given up"):
            self.assertGreater(fates.count(word), MANY // 4)


if __name__ == "__main__":
    unittest.main()
