"""Point 2 and the errors of the interface."""

import unittest

from samenames import errors

PLAIN = ["InvalidEdit", "UnknownFile", "FileExists", "NothingToUndo", "Cancelled", "UnknownKey", "CyclicKey"]
WITH_FIELDS = ["SyntaxProblem", "Refused"]


class ErrorsTest(unittest.TestCase):
    def test_the_base_class_is_a_value_error(self):
        self.assertEqual(errors.ServerError.__bases__, (ValueError,))

    def test_all_others_derive_directly_from_the_base_class(self):
        for name in PLAIN + WITH_FIELDS:
            with self.subTest(name=name):
                self.assertEqual(getattr(errors, name).__bases__, (errors.ServerError,))

    def test_all_can_be_caught_as_server_and_value_errors(self):
        for name in PLAIN + WITH_FIELDS:
            values = {"SyntaxProblem": (3, 5), "Refused": ("clash", "m", 7)}.get(name, ())
            for caught in (getattr(errors, name), errors.ServerError, ValueError):
                with self.subTest(name=name, caught=caught), self.assertRaises(caught):
                    raise getattr(errors, name)(*values)

    def test_no_error_is_caught_as_another(self):
        for name in PLAIN:
            for other in PLAIN + WITH_FIELDS:
                if other != name:
                    self.assertNotIsInstance(getattr(errors, name)(), getattr(errors, other))

    def test_there_are_no_other_errors(self):
        own = [name for name, value in vars(errors).items() if isinstance(value, type)]
        self.assertEqual(sorted(own), sorted(PLAIN + WITH_FIELDS + ["ServerError"]))

    def test_errors_without_fields_keep_none(self):
        for name in PLAIN:
            self.assertEqual(vars(getattr(errors, name)()), {})

    def test_syntax_problem_keeps_its_values(self):
        problem = errors.SyntaxProblem(3, 5)
        self.assertEqual((problem.start, problem.end), (3, 5))
        self.assertEqual(sorted(vars(problem)), ["end", "start"])

    def test_refused_keeps_its_values(self):
        refused = errors.Refused("clash", "shapes", 12)
        self.assertEqual((refused.code, refused.file, refused.start), ("clash", "shapes", 12))
        self.assertEqual(sorted(vars(refused)), ["code", "file", "start"])


if __name__ == "__main__":
    unittest.main()
