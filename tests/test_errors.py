import unittest

from primer import errors
from primer.errors import PrimerError

REFUSALS = ["NoText", "Unfit", "Unknown", "Unlearnt", "TooMany", "Lacking", "NoRow", "NoDeed"]


class ErrorsTest(unittest.TestCase):
    def test_primer_error_stands_right_under_value_error(self):
        self.assertEqual(PrimerError.__bases__, (ValueError,))

    def test_each_refusal_stands_right_under_primer_error(self):
        for name in REFUSALS:
            with self.subTest(name=name):
                self.assertEqual(getattr(errors, name).__bases__, (PrimerError,))

    def test_the_refusals_are_classes_apart(self):
        classes = [getattr(errors, name) for name in REFUSALS]
        for one in classes:
            under = [other for other in classes if issubclass(one, other)]
            self.assertEqual(under, [one])

    def test_each_is_made_of_one_text(self):
        for name in REFUSALS + ["PrimerError"]:
            with self.subTest(name=name):
                error = getattr(errors, name)("some words")
                self.assertEqual(error.args, ("some words",))
                self.assertEqual(str(error), "some words")

    def test_each_is_taken_as_any_refusal(self):
        for name in REFUSALS:
            with self.subTest(name=name):
                with self.assertRaises(PrimerError):
                    raise getattr(errors, name)("some words")


if __name__ == "__main__":
    unittest.main()
