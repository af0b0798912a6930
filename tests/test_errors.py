"""The classes of bucketline/errors.py."""

import unittest

from bucketline import errors

ATTRIBUTES = {
    "InvalidLine": ["index"],
    "UnknownPerson": ["name"],
    "InvalidNumber": [],
    "InvalidChain": ["index"],
    "TooManyPeople": [],
    "Contradiction": [],
    "InvalidWorker": ["part"],
    "InvalidFire": ["part"],
    "InvalidOperation": ["index"],
    "InvalidText": ["row", "word"],
    "InvalidSchedule": ["row"],
    "DecodeError": ["offset"],
}


class ErrorsTest(unittest.TestCase):
    def test_base_class(self):
        self.assertTrue(issubclass(errors.LineError, ValueError))

    def test_all_errors_are_line_errors_and_none_is_another_one(self):
        for name in ATTRIBUTES:
            bases = [base.__name__ for base in getattr(errors, name).__mro__]
            self.assertEqual(bases[1:3], ["LineError", "ValueError"], name)

    def test_there_are_no_other_errors(self):
        classes = [name for name, value in vars(errors).items() if isinstance(value, type)]
        self.assertEqual(sorted(classes), sorted(["LineError", *ATTRIBUTES]))

    def test_attributes_are_given_by_keyword(self):
        for name, attributes in ATTRIBUTES.items():
            values = {attribute: 5 + place for place, attribute in enumerate(attributes)}
            self.assertEqual(vars(getattr(errors, name)(**values)), values, name)

    def test_attributes_are_not_given_by_position(self):
        for name, attributes in ATTRIBUTES.items():
            if attributes:
                with self.assertRaises(TypeError):
                    getattr(errors, name)(*range(len(attributes)))

    def test_attributes_are_needed(self):
        for name, attributes in ATTRIBUTES.items():
            if attributes:
                with self.assertRaises(TypeError):
                    getattr(errors, name)()

    def test_all_can_be_caught_by_the_base_class(self):
        for name, attributes in ATTRIBUTES.items():
            with self.assertRaises(errors.LineError):
                raise getattr(errors, name)(**{attribute: 1 for attribute in attributes})


if __name__ == "__main__":
    unittest.main()
