"""Texts: what is written, what is read, and rows that can't be."""

import copy
import random
import unittest

from hushnotice.errors import BadNotices, BadRules, BadText
from hushnotice.notes import read, written
from tests.helps import drawn_notices, drawn_rules, person, refused

RULES = (
    (((22, 6), (9, 10)), 3, ((0, 4), (7, 12)), 24, 1),
    ((), 0, (), None, None),
    (((0, 23),), 4, (), None, 0),
    ((), 1, ((5, 1),), 1, None),
)
NOTICES = [(0, 3, 7, 0), (1, 0, 0, 10), (3, 2, 5, 300)]
TEXT = """person 3 24 1
hush 22 6
hush 9 10
gather 0 4
gather 7 12
person 0 - -
person 4 - 0
hush 0 23
person 1 1 -
gather 5 1
notice 0 3 7 0
notice 1 0 0 10
notice 3 2 5 300"""
ROWS = TEXT.split("\n")


class WrittenTest(unittest.TestCase):
    def test_all_kinds_of_rows(self):
        self.assertEqual(written(RULES, NOTICES), TEXT)

    def test_no_notices(self):
        self.assertEqual(written(RULES, []), "\n".join(ROWS[:10]))

    def test_one_person(self):
        self.assertEqual(written((person(),), []), "person 0 - -")

    def test_nothing_that_is_handed_in_is_changed(self):
        notices = list(NOTICES)
        before = copy.deepcopy(notices)
        self.assertEqual(written(RULES, notices), written(RULES, notices))
        self.assertEqual(notices, before)


class ReadTest(unittest.TestCase):
    def test_all_kinds_of_rows(self):
        self.assertEqual(read(TEXT), (RULES, NOTICES))

    def test_no_notices(self):
        self.assertEqual(read("person 0 - -"), ((person(),), []))

    def test_numbers_of_one_to_three_figures(self):
        text = "person 0 10 -\nperson 0 9 0\nnotice 0 0 0 0\nnotice 0 0 0 99\nnotice 0 0 0 100\nnotice 0 0 0 300"
        rules = (person(wait=10), person(wait=9, further=0))
        self.assertEqual(read(text), (rules, [(0, 0, 0, born) for born in (0, 99, 100, 300)]))

    def test_kinds_of_what_is_told(self):
        told = read(TEXT)
        self.assertEqual([type(part) for part in (told, *told)], [tuple, tuple, list])
        for row in told[0]:
            self.assertEqual([type(part) for part in row[:3]], [tuple, int, tuple])
            self.assertEqual([type(pair) for pair in row[0] + row[2]], [tuple] * len(row[0] + row[2]))
        self.assertEqual([type(notice) for notice in told[1]], [tuple] * 3)

    def test_what_is_told_may_be_changed(self):
        read(TEXT)[1].clear()
        self.assertEqual(read(TEXT), (RULES, NOTICES))

    def test_what_is_written_is_read_to_the_same(self):
        for seed in range(500):
            chance = random.Random(seed)
            rules = drawn_rules(chance)
            notices = drawn_notices(chance, len(rules))
            text = written(rules, notices)
            with self.subTest(seed=seed):
                self.assertEqual(read(text), (rules, notices))
                self.assertEqual(written(*read(text)), text)
                self.assertLessEqual(len(text), 1500)

    def test_the_longest(self):
        row = (((22, 23), (11, 10), (20, 21)), 4, ((4, 10), (5, 11), (6, 12), (7, 10)), 24, 5)
        notices = [(5, 3, 7, 300)] * 30
        self.assertEqual(read(written((row,) * 6, notices)), ((row,) * 6, notices))


class BadTextTest(unittest.TestCase):
    def check(self, rows, bad):
        self.assertEqual(refused(self, BadText, read, "\n".join(rows)).row, bad)

    def check_row(self, row):
        """This row can't be, wherever it stands, with worse ones behind it."""
        with self.subTest(row=row):
            self.check([row], 0)
            self.check([row, "person 0 - -"], 0)
            for at in range(len(ROWS) + 1):
                self.check(ROWS[:at] + [row] + ROWS[at:], at)
                self.check(ROWS[:at] + [row, "worse"], at)

    def test_empty_rows(self):
        self.check_row("")
        self.check([""], 0)
        self.check(["", ""], 0)
        self.check(ROWS + [""], len(ROWS))
        self.check([""] + ROWS, 0)

    def test_empty_words(self):
        for row in (" ", "  ", "person 0 - - ", " person 0 - -", "person  0 - -", "person 0  - -", "person 0 -  -"):
            self.check_row(row)
        for row in ("hush 1  2", "hush 1 2 ", " hush 1 2", "gather 1 2 ", "notice 0 0 0  0", "notice 0 0 0 0 "):
            self.check_row(row)
        for row in ("person 0 - ", "person  - -", "hush 1 ", "hush  1", "notice 0 0 0 "):
            self.check_row(row)

    def test_other_words_ahead(self):
        for name in ("Person", "persons", "perso", "HUSH", "rule", "-", "0", "notices", "person,", "#"):
            for rest in ("", " 1 2", " 0 - -", " 0 0 0 0"):
                self.check_row(name + rest)

    def test_too_few_or_too_many_words(self):
        for name, many in (("person", 3), ("hush", 2), ("gather", 2), ("notice", 4)):
            for other in range(7):
                if other != many:
                    self.check_row(" ".join([name] + ["1"] * other))
        for row in ("person 0 -", "person 0 - - -", "person - -", "hush -", "gather"):
            self.check_row(row)

    def test_words_that_are_no_numbers(self):
        for word in ("x", "-1", "+1", "1.0", "1x", "x1", "one", "1_0", "--", "", "0x1", "1e1", "1-", ".", "~", "None"):
            for row in ("person {} - -", "person 0 {} -", "person 0 - {}", "hush {} 1", "hush 1 {}", "gather {} 1"):
                self.check_row(row.format(word))
            for row in ("gather 1 {}", "notice {} 0 0 0", "notice 0 {} 0 0", "notice 0 0 {} 0", "notice 0 0 0 {}"):
                self.check_row(row.format(word))

    def test_four_figures_and_needless_noughts(self):
        for word in ("1000", "3000", "10000", "00", "01", "000", "010", "007", "0000", "0001", "099"):
            for row in ("person {} - -", "person 0 {} -", "person 0 - {}", "hush {} 1", "hush 1 {}", "gather {} 1"):
                self.check_row(row.format(word))
            for row in ("gather 1 {}", "notice {} 0 0 0", "notice 0 {} 0 0", "notice 0 0 {} 0", "notice 0 0 0 {}"):
                self.check_row(row.format(word))

    def test_none_for_wait_and_further_alone(self):
        for row in ("person - - -", "person - 1 0", "hush - 1", "hush 1 -", "gather - 1", "gather 1 -"):
            self.check_row(row)
        for row in ("notice - 0 0 0", "notice 0 - 0 0", "notice 0 0 - 0", "notice 0 0 0 -"):
            self.check_row(row)
        self.assertEqual(read("person 0 - 0\nperson 0 1 -")[0], (person(further=0), person(wait=1)))

    def test_rows_ahead_of_the_first_person(self):
        for row in ("hush 1 2", "gather 1 2", "notice 0 0 0 0"):
            self.check([row], 0)
            self.check([row] + ROWS, 0)
            self.check([row, row] + ROWS, 0)

    def test_rows_behind_what_they_are_to_stand_ahead_of(self):
        self.check(["person 0 - -", "gather 1 2", "hush 1 2"], 2)
        self.check(["person 0 - -", "hush 1 2", "gather 1 2", "hush 3 4", "worse"], 3)
        self.check(["person 0 - -", "notice 0 0 0 0", "person 0 - -"], 2)
        self.check(["person 0 - -", "notice 0 0 0 0", "hush 1 2"], 2)
        self.check(["person 0 - -", "notice 0 0 0 0", "gather 1 2"], 2)
        self.check(["person 0 - -", "gather 1 2", "notice 0 0 0 0", "notice 0 0 0 0", "hush 1 2"], 4)
        self.check(ROWS + ["person 0 - -"], len(ROWS))

    def test_another_person_begins_anew(self):
        text = "person 0 - -\ngather 1 2\nperson 0 - -\nhush 1 2\nperson 0 - -\nhush 3 4"
        self.assertEqual(read(text)[0], (person(gather=((1, 2),)), person(((1, 2),)), person(((3, 4),))))


class OrderTest(unittest.TestCase):
    def check_rules(self, text, bad_person, bad_part):
        error = refused(self, BadRules, read, text)
        self.assertEqual((error.person, error.part), (bad_person, bad_part))

    def check_notices(self, text, number):
        self.assertEqual(refused(self, BadNotices, read, text).number, number)

    def test_numbers_that_can_not_be_are_none_of_the_text(self):
        self.check_rules("person 0 - -\nhush 5 5", 0, 0)
        self.check_rules("person 0 - -\nperson 0 - -\nhush 5 24", 1, 0)
        self.check_rules("person 5 - -", 0, 1)
        self.check_rules("person 999 - -", 0, 1)
        self.check_rules("person 0 - -\ngather 8 1", 0, 2)
        self.check_rules("person 0 - -\ngather 2 1\ngather 1 1", 0, 2)
        self.check_rules("person 0 - -\ngather 2 13", 0, 2)
        self.check_rules("person 0 0 -", 0, 3)
        self.check_rules("person 0 25 -", 0, 3)
        self.check_rules("person 0 - 1", 0, 4)
        self.check_rules("person 0 - 0\nperson 0 - 2", 1, 4)

    def test_a_row_too_many(self):
        self.check_rules("person 0 - -" + "\nhush 1 2" * 4, 0, 0)
        self.check_rules("person 0 - -" + "".join(f"\ngather {kind} 1" for kind in range(5)), 0, 2)
        self.check_rules("\n".join(["person 0 - -"] * 7), 6, -1)
        self.check_notices("person 0 - -" + "\nnotice 0 0 0 0" * 31, 30)
        read("person 0 - -" + "\nhush 1 2" * 3 + "\nnotice 0 0 0 0" * 30)
        read("\n".join(["person 0 - -"] * 6))

    def test_notices_that_can_not_be(self):
        self.check_notices("person 0 - -\nnotice 1 0 0 0", 0)
        self.check_notices("person 0 - -\nnotice 0 4 0 0", 0)
        self.check_notices("person 0 - -\nnotice 0 0 8 0", 0)
        self.check_notices("person 0 - -\nnotice 0 0 0 301", 0)
        self.check_notices("person 0 - -\nnotice 0 0 0 5\nnotice 0 0 0 4", 1)

    def test_the_text_comes_first_then_rules_then_notices(self):
        text = "person 5 - -\nnotice 9 0 0 0\n"
        self.assertEqual(refused(self, BadText, read, text + "worse").row, 2)
        self.check_rules(text + "notice 0 0 0 0", 0, 1)
        self.check_notices("person 4 - -\nnotice 9 0 0 0", 0)

    def test_written_refuses_alike(self):
        error = refused(self, BadRules, written, (person(), person(further=2)), ["worse"])
        self.assertEqual((error.person, error.part), (1, 4))
        self.assertEqual(refused(self, BadNotices, written, RULES, NOTICES + ["worse"]).number, 3)
        self.assertEqual(refused(self, BadNotices, written, RULES, tuple(NOTICES)).number, 0)


if __name__ == "__main__":
    unittest.main()
