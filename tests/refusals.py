"""What the tests of changes share."""

import unittest

from samenames.check import first_problem
from samenames.errors import Refused


class ChangeTest(unittest.TestCase):
    def refused(self, expected, change, program, *rest):
        """The change is refused with the code, module and start that are expected, and changes nothing."""
        before = dict(program)
        with self.assertRaises(Refused) as caught:
            change(program, *rest)
        error = caught.exception
        self.assertEqual((error.code, error.file, error.start), expected)
        self.assertEqual(program, before)

    def changed(self, expected, change, program, *rest):
        """The change gives what is expected: a dict, or the text of the module that was passed."""
        before = dict(program)
        found = change(program, *rest)
        if isinstance(expected, str):
            expected = {**program, rest[0]: expected}
        self.assertEqual(found, expected)
        self.assertEqual(program, before)
        self.assertIsNot(found, program)
        self.assertIsNone(first_problem(found))
