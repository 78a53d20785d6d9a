"""The refusals: their classes and values."""

import unittest

from filecross import errors

NUMBERED = [errors.BadRule, errors.BadPapers, errors.BadCabinet]
PLAIN = [errors.BadMarks, errors.NoPaper, errors.NoHead]
ALL = NUMBERED + PLAIN + [errors.NotFound, errors.BadText]


class Classes(unittest.TestCase):
    def test_any_refusal_is_a_value_error(self):
        self.assertEqual(errors.FileError.__bases__, (ValueError,))

    def test_each_stands_right_under_file_error(self):
        for kind in ALL:
            self.assertEqual(kind.__bases__, (errors.FileError,), kind)

    def test_all_are_unlike_and_defined_there(self):
        self.assertEqual(len(set(ALL)), 8)
        for kind in ALL:
            self.assertEqual(kind.__module__, "filecross.errors")


class Values(unittest.TestCase):
    def test_numbers(self):
        for kind in NUMBERED:
            self.assertEqual(kind(3).number, 3)

    def test_name(self):
        self.assertEqual(errors.NotFound("bill").name, "bill")

    def test_row(self):
        self.assertEqual(errors.BadText(0).row, 0)

    def test_each_object_has_its_own_value(self):
        one, other = errors.BadRule(1), errors.BadRule(2)
        self.assertEqual((one.number, other.number), (1, 2))
        self.assertEqual(set(vars(one)), {"number"})

    def test_plain_ones_are_raised_with_a_word(self):
        for kind in PLAIN:
            with self.assertRaises(errors.FileError):
                raise kind("no")


if __name__ == "__main__":
    unittest.main()
