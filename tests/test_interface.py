"""The names, arguments and places that the interface lists."""

import inspect
import unittest

from hushnotice import bells, notes, rules, walk

FUNCTIONS = (
    (rules, "is_hushed", "(rules, person, moment)"),
    (rules, "free_from", "(rules, person, moment)"),
    (rules, "hushed_between", "(rules, person, begin, end)"),
    (walk, "walked", "(rules, notices, *, hears=(), until=600)"),
    (walk, "wheeled", "(rules, notices, *, hears=(), until=600)"),
    (walk, "chain", "(rules, person)"),
    (notes, "written", "(rules, notices)"),
    (notes, "read", "(text)"),
)
CLASSES = (
    ("Desk", "(many)", {
        "offer": "(self)", "withdraw": "(self, bell)", "letters": "(self, device)",
        "hear": "(self, letter)", "state": "(self, bell)",
    }),
    ("Device", "(number)", {
        "turn": "(self, *, on)", "hear": "(self, letter)", "take": "(self, bell)",
        "letters": "(self)", "rings": "(self)", "rang": "(self)",
    }),
)


class InterfaceTest(unittest.TestCase):
    def test_functions(self):
        for module, name, form in FUNCTIONS:
            with self.subTest(name=name):
                function = getattr(module, name)
                self.assertEqual(function.__module__, module.__name__)
                self.assertEqual(str(inspect.signature(function)), form)

    def test_classes(self):
        for name, form, methods in CLASSES:
            made = getattr(bells, name)
            self.assertEqual(made.__module__, "hushnotice.bells")
            self.assertEqual(str(inspect.signature(made)), form)
            for method, its_form in methods.items():
                with self.subTest(name=name, method=method):
                    self.assertEqual(str(inspect.signature(vars(made)[method])), its_form)

    def test_most_until(self):
        self.assertIs(type(walk.MOST_UNTIL), int)
        self.assertEqual(walk.MOST_UNTIL, 600)


if __name__ == "__main__":
    unittest.main()
