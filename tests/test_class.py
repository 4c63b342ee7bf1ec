import unittest

from helper import HIGHEST, KEEP_END, answered, file, last, longer, make_class


class Making(unittest.TestCase):
    def test_classes_are_numbered_from_0(self):
        self.assertEqual(answered(make_class(5), make_class(5), make_class(0, 1)), [0, 1, 2])

    def test_keep_goes_to_just_below_2_to_39(self):
        self.assertEqual(answered(make_class(0)), [0])
        self.assertEqual(answered(make_class(KEEP_END - 1)), [0])
        self.assertEqual(answered(make_class(KEEP_END)), [-1])
        self.assertEqual(answered(make_class(KEEP_END + 1)), [-1])
        self.assertEqual(answered(make_class(HIGHEST)), [-1])

    def test_early_is_0_or_1(self):
        self.assertEqual(answered(make_class(5, 0)), [0])
        self.assertEqual(answered(make_class(5, 1)), [0])
        self.assertEqual(answered(make_class(5, 2)), [-1])
        self.assertEqual(answered(make_class(5, HIGHEST)), [-1])

    def test_a_refused_class_takes_no_number(self):
        self.assertEqual(answered(make_class(KEEP_END), make_class(5, 2), make_class(5)), [-1, -1, 0])
        self.assertEqual(answered(make_class(5, 2), file(0)), [-1, -4])

    def test_there_are_at_most_16(self):
        self.assertEqual(answered(*[make_class(5)] * 18), [*range(16), -3, -3])

    def test_a_wrong_number_is_told_ahead_of_too_many(self):
        sixteen = [make_class(5)] * 16
        self.assertEqual(last(*sixteen, make_class(KEEP_END)), -1)
        self.assertEqual(last(*sixteen, make_class(5, 2)), -1)
        self.assertEqual(last(*sixteen, make_class(KEEP_END - 1, 1)), -3)


class LongerRefused(unittest.TestCase):
    def test_there_must_be_such_a_class(self):
        self.assertEqual(answered(longer(0, 5)), [-4])
        self.assertEqual(answered(make_class(5), longer(0, 6), longer(1, 6)), [0, 0, -4])
        self.assertEqual(last(make_class(5), longer(HIGHEST, 6)), -4)

    def test_keep_goes_to_just_below_2_to_39(self):
        self.assertEqual(last(make_class(5), longer(0, KEEP_END - 1)), 0)
        self.assertEqual(last(make_class(5), longer(0, KEEP_END)), -1)
        self.assertEqual(last(make_class(5), longer(0, HIGHEST)), -1)

    def test_keep_never_falls(self):
        self.assertEqual(last(make_class(5), longer(0, 5)), 0)
        self.assertEqual(last(make_class(5), longer(0, 4)), -1)
        self.assertEqual(answered(make_class(5), longer(0, 9), longer(0, 8), longer(0, 9)), [0, 0, -1, 0])

    def test_a_missing_class_is_told_ahead_of_a_wrong_keep(self):
        self.assertEqual(last(make_class(5), longer(1, KEEP_END)), -4)
        self.assertEqual(last(make_class(5), longer(1, 4)), -4)


if __name__ == "__main__":
    unittest.main()
