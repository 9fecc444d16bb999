"""The refusals: their classes and their values."""

import unittest

from hushnotice import errors

WITH_VALUES = {
    "BadRules": ("person", "part"),
    "BadNotices": ("number",),
    "BadHears": ("number",),
    "BadText": ("row",),
}
WITHOUT_VALUES = ("BadPerson", "BadMoment", "BadDevice", "BadBell", "NotRinging", "IsOff")


class ClassesTest(unittest.TestCase):
    def test_notice_error_is_a_value_error(self):
        self.assertEqual(errors.NoticeError.__bases__, (ValueError,))

    def test_each_is_directly_under_notice_error(self):
        for name in (*WITH_VALUES, *WITHOUT_VALUES):
            with self.subTest(name=name):
                self.assertEqual(getattr(errors, name).__bases__, (errors.NoticeError,))

    def test_none_is_under_another_one(self):
        classes = [getattr(errors, name) for name in (*WITH_VALUES, *WITHOUT_VALUES)]
        self.assertEqual(len(set(classes)), 10)
        for one in classes:
            for other in classes:
                self.assertEqual(issubclass(one, other), one is other)

    def test_each_is_defined_in_the_listed_file(self):
        for name in ("NoticeError", *WITH_VALUES, *WITHOUT_VALUES):
            with self.subTest(name=name):
                self.assertEqual(getattr(errors, name).__module__, "hushnotice.errors")
                self.assertEqual(getattr(errors, name).__name__, name)


class ValuesTest(unittest.TestCase):
    def test_values_are_set_on_each_object_in_their_order(self):
        for name, values in WITH_VALUES.items():
            with self.subTest(name=name):
                told = [number + 2 for number in range(len(values))]
                error = getattr(errors, name)(*told)
                self.assertEqual(vars(error), dict(zip(values, told)))

    def test_values_are_those_of_the_object_not_of_the_class(self):
        first, second = errors.BadRules(1, 4), errors.BadRules(5, -1)
        self.assertEqual((first.person, first.part), (1, 4))
        self.assertEqual((second.person, second.part), (5, -1))
        first, second = errors.BadNotices(3), errors.BadNotices(30)
        self.assertEqual((first.number, second.number), (3, 30))
        first, second = errors.BadHears(0), errors.BadHears(60)
        self.assertEqual((first.number, second.number), (0, 60))
        first, second = errors.BadText(7), errors.BadText(8)
        self.assertEqual((first.row, second.row), (7, 8))

    def test_others_need_no_values(self):
        for name in ("NoticeError", *WITHOUT_VALUES):
            with self.subTest(name=name):
                self.assertIsInstance(getattr(errors, name)(), errors.NoticeError)


if __name__ == "__main__":
    unittest.main()
