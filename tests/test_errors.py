"""Tests of neverwas.errors: [1.6]."""

import unittest

from helper import ANY_VALUES
from neverwas import errors

WITH_MESSAGE = ["InvalidLog", "InvalidBudget", "NotCompact"]
ATTRIBUTES = {
    "UnknownId": "entry_id",
    "UnknownCell": "cell",
    "SealedWrite": "entry_id",
    "DuplicateId": "entry_id",
    "InvalidRules": "entry_id",
    "InvalidCommand": "position",
    "InvalidRecord": "position",
    "ParseError": "line",
}


class ErrorClasses(unittest.TestCase):
    def test_log_error_is_a_value_error(self):
        self.assertEqual((ValueError,), errors.LogError.__bases__)

    def test_the_eleven_others_are_direct_subclasses(self):
        self.assertEqual(11, len(WITH_MESSAGE + list(ATTRIBUTES)))
        for name in WITH_MESSAGE + list(ATTRIBUTES):
            self.assertEqual((errors.LogError,), getattr(errors, name).__bases__, name)

    def test_there_are_no_other_classes(self):
        found = [name for name in vars(errors) if isinstance(getattr(errors, name), type)]
        self.assertEqual(sorted(["LogError"] + WITH_MESSAGE + list(ATTRIBUTES)), sorted(found))

    def test_messages(self):
        for name in ["LogError"] + WITH_MESSAGE:
            error = getattr(errors, name)("what is wrong")
            self.assertEqual("what is wrong", str(error), name)

    def test_attributes_are_the_very_values(self):
        for name, attribute in ATTRIBUTES.items():
            for value in ANY_VALUES:
                error = getattr(errors, name)(value)
                self.assertIs(value, getattr(error, attribute), name)
                self.assertEqual({attribute: value}, vars(error), name)

    def test_attributes_by_the_documented_name(self):
        for name, attribute in ATTRIBUTES.items():
            error = getattr(errors, name)(**{attribute: 7})
            self.assertEqual(7, getattr(error, attribute), name)

    def test_arguments_are_required(self):
        for name in ATTRIBUTES:
            with self.assertRaises(TypeError):
                getattr(errors, name)()

    def test_the_message_names_the_value(self):
        for name in ATTRIBUTES:
            self.assertIn("4711", str(getattr(errors, name)(4711)), name)


if __name__ == "__main__":
    unittest.main()
