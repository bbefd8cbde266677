import unittest

from twinmoulds import errors

NAMES = ["NoMarks", "NoSheet", "NoPage", "NoBook", "NoMould", "NoDay", "NoSort", "NoNumber", "NoSheets", "NoRun",
         "NoLaying", "NoHeap", "NoCount", "Clash", "NoDeed", "NoText", "NoRow", "TooMany", "Lacking"]


class Classes(unittest.TestCase):
    def test_mould_error_stands_straight_under_value_error(self):
        self.assertEqual(errors.MouldError.__bases__, (ValueError,))

    def test_each_stands_straight_under_mould_error(self):
        for name in NAMES:
            self.assertEqual(getattr(errors, name).__bases__, (errors.MouldError,), name)

    def test_no_two_are_one(self):
        self.assertEqual(len({getattr(errors, name) for name in NAMES}), len(NAMES))

    def test_there_are_no_others(self):
        there = {name for name, value in vars(errors).items() if isinstance(value, type)}
        self.assertEqual(there, set(NAMES) | {"MouldError"})

    def test_many_is_a_field(self):
        self.assertEqual(errors.TooMany(480000).many, 480000)
        self.assertEqual(errors.Lacking(1).many, 1)

    def test_each_is_raised_and_taken_as_mould_error(self):
        for name in NAMES:
            with self.assertRaises(errors.MouldError):
                raise getattr(errors, name)(3)


if __name__ == "__main__":
    unittest.main()
