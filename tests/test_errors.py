import unittest

from pastamended import errors

STATEMENT_ERRORS = [
    "SyntaxFault", "UnknownName", "DuplicateName", "AmbiguousName", "WrongKind", "WrongCount", "Misplaced",
    "WrongRule", "WrongSpan",
]
PLAIN_ERRORS = ["WrongRegion", "DiskFull", "PowerLost", "Stopped"]
FIELDS = {
    "NotYetKnown": ["known"],
    "RuleBroken": ["table", "rule", "moment"],
    "Conflict": ["index"],
    "BadBlock": ["index"],
}


class ErrorsTest(unittest.TestCase):
    def test_base_class(self):
        self.assertEqual(errors.DatabaseError.__bases__, (ValueError,))
        self.assertEqual(errors.StatementError.__bases__, (errors.DatabaseError,))

    def test_statement_errors(self):
        for name in STATEMENT_ERRORS:
            with self.subTest(name):
                made = getattr(errors, name)(17)
                self.assertEqual(made.__class__.__bases__, (errors.StatementError,))
                self.assertEqual(made.place, 17)
        self.assertEqual(errors.StatementError(3).place, 3)

    def test_errors_without_fields(self):
        for name in PLAIN_ERRORS:
            with self.subTest(name):
                made = getattr(errors, name)()
                self.assertEqual(made.__class__.__bases__, (errors.DatabaseError,))

    def test_errors_with_fields(self):
        for name, fields in FIELDS.items():
            with self.subTest(name):
                values = [f"value {field}" for field in fields]
                made = getattr(errors, name)(*values)
                self.assertEqual(made.__class__.__bases__, (errors.DatabaseError,))
                self.assertEqual([getattr(made, field) for field in fields], values)

    def test_they_can_be_caught_by_their_bases(self):
        for base in (errors.SyntaxFault, errors.StatementError, errors.DatabaseError, ValueError):
            with self.assertRaises(base) as caught:
                raise errors.SyntaxFault(5)
            self.assertEqual(caught.exception.place, 5)


if __name__ == "__main__":
    unittest.main()
