"""[21]: the error classes, their bases and the values that they keep."""

import unittest

from blendworlds import errors

WITH_VALUE = {"NoKind": (LookupError, "number"), "NoPlace": (LookupError, "number"), "NoValue": (LookupError, "number"),
              "NoWord": (LookupError, "word"), "BadLine": (ValueError, "number"), "BadText": (ValueError, "piece")}
WITHOUT_VALUE = {"NothingDone": LookupError, "CanNot": ValueError, "Unfit": ValueError}


class ErrorsTest(unittest.TestCase):
    def test_values_are_kept(self):
        for name, (base, word) in WITH_VALUE.items():
            for value in (7, -1, 10 ** 30, "easy", ""):
                with self.subTest(name=name, value=value):
                    made = getattr(errors, name)(value)
                    self.assertEqual(vars(made), {word: value})
                    self.assertEqual(vars(getattr(errors, name)(**{word: value})), {word: value})
                    self.assertEqual(made.args, getattr(errors, name)(**{word: value}).args)

    def test_without_values(self):
        for name in WITHOUT_VALUE:
            with self.subTest(name=name):
                self.assertEqual(vars(getattr(errors, name)()), {})

    def test_the_value_is_wanted(self):
        for name in WITH_VALUE:
            with self.subTest(name=name), self.assertRaises(TypeError):
                getattr(errors, name)()

    def test_direct_subclasses(self):
        for name, (base, _) in WITH_VALUE.items():
            self.assertEqual(getattr(errors, name).__bases__, (base,), name)
        for name, base in WITHOUT_VALUE.items():
            self.assertEqual(getattr(errors, name).__bases__, (base,), name)

    def test_no_other_errors(self):
        names = [name for name, part in vars(errors).items() if isinstance(part, type)]
        self.assertEqual(sorted(names), sorted([*WITH_VALUE, *WITHOUT_VALUE]))

    def test_raised_and_caught_apart(self):
        names = [*WITH_VALUE, *WITHOUT_VALUE]
        for name in names:
            made = getattr(errors, name)(*([3] if name in WITH_VALUE else []))
            for other in names:
                self.assertEqual(isinstance(made, getattr(errors, other)), name == other)


if __name__ == "__main__":
    unittest.main()
