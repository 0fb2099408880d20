"""doublecut.errors, and [2]: exceptions."""

import unittest

from doublecut import errors

FIELDS = {
    "BadLay": ("place",), "BadChains": ("place",), "BadStep": ("value",), "BadEnd": ("value",), "BadLink": ("value",),
    "BadNumber": ("value",), "BadHistory": ("place",), "BadSeveral": ("place",), "BadPaper": ("word",),
    "BadWorths": ("place",), "BadTree": ("path",), "BadTerm": ("path",), "BadSaying": ("path",), "BadLog": ("place",),
    "BadLot": ("place",), "BadText": ("line", "word"), "Unlike": (), "TooGreat": ("most",),
}
VALUES = [None, True, 0, 10 ** 999, "", "text", b"x", (), (0, 1), [], {}, object()]


class Errors(unittest.TestCase):
    def test_bases(self):
        self.assertEqual(errors.ChainError.__bases__, (ValueError,))
        self.assertEqual(errors.TooGreat.__bases__, (OverflowError,))
        for name in FIELDS:
            if name != "TooGreat":
                self.assertEqual(getattr(errors, name).__bases__, (errors.ChainError,), name)

    def test_fields_by_position_and_by_name(self):
        for name, fields in FIELDS.items():
            made = getattr(errors, name)
            for value in VALUES:
                told = [value] + [7] * (len(fields) - 1)
                told = told[:len(fields)]
                by_name = dict(zip(fields, told))
                for error in (made(*told), made(**by_name)):
                    self.assertEqual(vars(error), by_name)
                    self.assertIsInstance(str(error), str)

    def test_wrong_numbers_of_fields(self):
        for name, fields in FIELDS.items():
            made = getattr(errors, name)
            with self.assertRaises(TypeError):
                made(*([1] * (len(fields) + 1)))
            if fields:
                with self.assertRaises(TypeError):
                    made(*([1] * (len(fields) - 1)))

    def test_the_text_of_chain_error(self):
        error = errors.ChainError("refused")
        self.assertEqual(str(error), "refused")
        self.assertIsInstance(error, ValueError)

    def test_each_can_be_raised_and_caught(self):
        for name, fields in FIELDS.items():
            made = getattr(errors, name)
            with self.assertRaises(made):
                raise made(*([()] * len(fields)))


if __name__ == "__main__":
    unittest.main()
