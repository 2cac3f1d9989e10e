"""The errors of stagecut/errors.py."""

import unittest

from stagecut import errors


class Errors(unittest.TestCase):
    def test_families(self):
        self.assertTrue(issubclass(errors.CutError, ValueError))
        for error in (errors.TextError, errors.Unfit, errors.BadLine, errors.BadImage, errors.TooMany, errors.NoRoute,
                      errors.BadCode):
            self.assertEqual(error.__bases__, (errors.CutError,))
        for error in (errors.BadCharacter, errors.BadNumber, errors.Unexpected):
            self.assertEqual(error.__bases__, (errors.TextError,))

    def test_fields(self):
        for made in (errors.TextError, errors.BadCharacter, errors.BadNumber, errors.Unexpected):
            error = made(3, 7)
            self.assertEqual((error.row, error.column), (3, 7))
        error = errors.Unfit(-1, 4, "size")
        self.assertEqual((error.stage, error.index, error.word), (-1, 4, "size"))
        self.assertEqual(errors.BadLine(9).line, 9)
        self.assertEqual(errors.NoRoute(2).cell, 2)
        error = errors.BadCode(5, "size")
        self.assertEqual((error.statement, error.word), (5, "size"))
        errors.BadImage()
        errors.TooMany()


if __name__ == "__main__":
    unittest.main()
