"""Point 3: the errors."""

import unittest

from loopworks import errors
from loopworks.errors import StepFails, TextFault, WorkError

NAMES = (
    "TooLarge", "Outside", "TooMany", "TooGreat", "BadFolding",
    "InvalidSystem", "InvalidPoint", "NotArranged",
)


class ErrorsTest(unittest.TestCase):
    def test_the_base_is_under_value_error(self):
        self.assertTrue(issubclass(WorkError, ValueError))

    def test_all_errors_are_under_the_base(self):
        for name in NAMES:
            with self.subTest(name):
                error = getattr(errors, name)
                self.assertTrue(issubclass(error, WorkError))
                self.assertEqual(error.__module__, "loopworks.errors")
                with self.assertRaises(WorkError):
                    raise error("so it is")
        self.assertTrue(issubclass(TextFault, WorkError))
        self.assertTrue(issubclass(StepFails, WorkError))

    def test_no_error_is_under_another_one_of_them(self):
        found = [getattr(errors, name) for name in NAMES] + [TextFault, StepFails]
        for one in found:
            for other in found:
                self.assertEqual(issubclass(one, other), one is other)

    def test_fields_of_a_text_fault(self):
        fault = TextFault(3, 14, "unexpected sign")
        self.assertEqual((fault.line, fault.column, fault.reason), (3, 14, "unexpected sign"))

    def test_field_of_a_step_that_fails(self):
        self.assertEqual(StepFails(7).index, 7)


if __name__ == "__main__":
    unittest.main()
