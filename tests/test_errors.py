"""Promise 2: the refusals, and how they stand to one another."""

import unittest

from modeyard import errors

PLAIN = [
    errors.NoRatio, errors.TooMany, errors.NoName, errors.NoGood, errors.NoAmount, errors.NoWay,
    errors.NoFit, errors.NoBalance, errors.NoWeights, errors.NoText, errors.NoRow,
]
ALL = PLAIN + [errors.NoWork]


class RefusalTest(unittest.TestCase):
    def test_base_stands_straight_under_value_error(self):
        self.assertEqual(errors.YardError.__bases__, (ValueError,))

    def test_others_stand_straight_under_the_base(self):
        for kind in ALL:
            self.assertEqual(kind.__bases__, (errors.YardError,), kind)

    def test_each_is_taken_by_its_own_class_and_no_other(self):
        for kind in ALL:
            refusal = kind("mill")
            self.assertEqual([taker for taker in ALL if isinstance(refusal, taker)], [kind])

    def test_all_twelve_are_there_under_their_names(self):
        self.assertEqual(
            sorted(kind.__name__ for kind in ALL),
            ["NoAmount", "NoBalance", "NoFit", "NoGood", "NoName", "NoRatio", "NoRow", "NoText",
             "NoWay", "NoWeights", "NoWork", "TooMany"],
        )
        self.assertEqual(len(set(ALL)), 12)

    def test_plain_ones_are_raised_with_words(self):
        for kind in PLAIN:
            with self.assertRaises(kind):
                raise kind("some words")

    def test_no_work_has_the_text_as_its_field_name(self):
        for text in ["mill", "", "no such work", "'"]:
            self.assertEqual(errors.NoWork(text).name, text)

    def test_no_work_is_raised_and_taken(self):
        for taker in (errors.NoWork, errors.YardError, ValueError):
            with self.assertRaises(taker) as taken:
                raise errors.NoWork("mill")
            self.assertEqual(taken.exception.name, "mill")


if __name__ == "__main__":
    unittest.main()
