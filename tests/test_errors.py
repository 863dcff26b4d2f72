import inspect
import unittest

from leatwork import errors

NAMES = ["BadText", "TooMany", "Failed", "BadProgram", "NotReady"]


class Errors(unittest.TestCase):

    def test_base(self):
        self.assertEqual(errors.LeatworkError.__bases__, (ValueError,))

    def test_each_stands_under_the_base_and_under_no_other(self):
        for name in NAMES:
            with self.subTest(name):
                self.assertEqual(getattr(errors, name).__bases__, (errors.LeatworkError,))

    def test_all_are_defined_here_and_no_other(self):
        found = [name for name, made in vars(errors).items() if inspect.isclass(made)]
        self.assertEqual(sorted(found), sorted(NAMES + ["LeatworkError"]))
        for name in found:
            self.assertEqual(getattr(errors, name).__module__, "leatwork.errors")

    def test_no_fields(self):
        for name in NAMES:
            self.assertEqual(vars(getattr(errors, name)("why")), {})


if __name__ == "__main__":
    unittest.main()
