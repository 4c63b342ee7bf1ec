import unittest

from helper import GONE, HERE, HIGHEST, answered, ask, file, last, last_ones, make_class, need


class Filing(unittest.TestCase):
    def test_things_are_numbered_from_0(self):
        self.assertEqual(answered(make_class(5), file(0), file(0), file(3, 0, [0, 1])), [0, 0, 1, 2])

    def test_a_gone_thing_keeps_its_number(self):
        self.assertEqual(answered(make_class(0), file(0), file(0), file(0)), [0, 0, 1, 2])

    def test_there_must_be_such_a_class(self):
        self.assertEqual(answered(file(0)), [-4])
        self.assertEqual(last_ones(2, make_class(5), make_class(5), file(0, 1), file(0, 2)), [0, -4])
        self.assertEqual(last(make_class(5), file(0, HIGHEST)), -4)

    def test_at_most_16_needs(self):
        twenty = [make_class(5)] + [file(0)] * 20
        self.assertEqual(last(*twenty, file(0, 0, range(16))), 20)
        self.assertEqual(last(*twenty, file(0, 0, range(17))), -2)
        self.assertEqual(last(*twenty, file(0, 0, range(4, 20))), 20)
        self.assertEqual(last(*twenty, file(0, 0, [HIGHEST] * 300)), -2)

    def test_needs_must_rise(self):
        three = [make_class(5)] + [file(0)] * 3
        self.assertEqual(last(*three, file(0, 0, [])), 3)
        self.assertEqual(last(*three, file(0, 0, [2])), 3)
        self.assertEqual(last(*three, file(0, 0, [0, 2])), 3)
        self.assertEqual(last(*three, file(0, 0, [0, 0])), -1)
        self.assertEqual(last(*three, file(0, 0, [0, 1, 1])), -1)
        self.assertEqual(last(*three, file(0, 0, [1, 0])), -1)
        self.assertEqual(last(*three, file(0, 0, [0, 2, 1])), -1)

    def test_what_it_needs_must_be_here(self):
        two = [make_class(5), file(0), file(3)]
        self.assertEqual(last(*two, file(4, 0, [0, 1])), 2)
        self.assertEqual(last(*two, file(4, 0, [0, 2])), -4)
        self.assertEqual(last(*two, file(4, 0, [HIGHEST])), -4)
        self.assertEqual(last(*two, file(5, 0, [0, 1])), -4)
        self.assertEqual(last(*two, file(5, 0, [1])), 2)

    def test_it_can_t_need_itself_as_it_is_filed(self):
        self.assertEqual(answered(make_class(5), file(0, 0, [0])), [0, -4])

    def test_there_are_at_most_256(self):
        full = [make_class(5)] + [file(0)] * 256
        self.assertEqual(answered(*full, file(0), file(0)), [0, *range(256), -3, -3])

    def test_gone_ones_count_too(self):
        full = [make_class(0)] + [file(0)] * 256
        self.assertEqual(answered(*full, file(9)), [0, *range(256), -3])

    def test_a_refused_filing_takes_no_number(self):
        refused = [file(0, 1), file(0, 0, [1, 0]), file(0, 0, [7]), file(0, 0, range(17))]
        self.assertEqual(answered(make_class(5), *refused, file(0)), [0, -4, -1, -4, -2, 0])


class FilingInOrder(unittest.TestCase):
    def setUp(self):
        self.full = [make_class(5)] + [file(0)] * 256

    def test_too_many_comes_first(self):
        self.assertEqual(last(*self.full, file(0, 0, [1] * 17)), -2)
        self.assertEqual(last(*self.full, file(0, 1, range(17))), -2)
        self.assertEqual(last(*self.full, file(0, 0, range(300, 317))), -2)
        self.assertEqual(last(*self.full, file(0, 0, range(17))), -2)

    def test_then_not_rising(self):
        self.assertEqual(last(*self.full, file(0, 1, [1, 1])), -1)
        self.assertEqual(last(*self.full, file(0, 0, [301, 300])), -1)
        self.assertEqual(last(*self.full, file(0, 0, [1, 0])), -1)

    def test_then_what_is_missing(self):
        self.assertEqual(last(*self.full, file(0, 1)), -4)
        self.assertEqual(last(*self.full, file(0, 0, [256])), -4)

    def test_then_256_things(self):
        self.assertEqual(last(*self.full, file(0, 0, [255])), -3)


class Needing(unittest.TestCase):
    def setUp(self):
        self.two = [make_class(5), make_class(50), file(0, 0), file(0, 1)]

    def test_a_need_is_told_once(self):
        self.assertEqual(last_ones(2, *self.two, need(0, 1, 0), need(0, 1, 0)), [0, 1])

    def test_a_need_from_the_filing_is_there_already(self):
        calls = [*self.two, file(0, 1, [0, 1])]
        self.assertEqual(last_ones(2, *calls, need(0, 2, 0), need(0, 2, 1)), [1, 1])

    def test_the_other_way_round_is_another_need(self):
        self.assertEqual(last_ones(2, *self.two, need(0, 1, 0), need(0, 0, 1)), [0, 0])

    def test_a_thing_may_need_itself(self):
        self.assertEqual(last_ones(2, *self.two, need(0, 1, 1), need(0, 1, 1)), [0, 1])

    def test_both_must_be_here(self):
        self.assertEqual(last(*self.two, need(0, 2, 0)), -4)
        self.assertEqual(last(*self.two, need(0, 0, 2)), -4)
        self.assertEqual(last(*self.two, need(0, HIGHEST, 0)), -4)
        self.assertEqual(last(*self.two, need(0, 0, HIGHEST)), -4)
        self.assertEqual(last(*self.two, need(4, 1, 0)), 0)
        self.assertEqual(last(*self.two, need(5, 1, 0)), -4)
        self.assertEqual(last(*self.two, need(5, 0, 1)), -4)

    def test_it_keeps_what_is_needed(self):
        self.assertEqual(last_ones(2, *self.two, need(4, 1, 0), ask(49, 0), ask(50, 0)), [HERE, GONE])

    def test_it_doesn_t_keep_what_needs(self):
        self.assertEqual(last(*self.two, need(4, 0, 1), ask(5, 0)), GONE)

    def test_at_most_16(self):
        calls = [make_class(5)] + [file(0)] * 20 + [need(0, 0, y) for y in range(16)]
        self.assertEqual(last_ones(17, *calls, need(0, 0, 16)), [0] * 16 + [-3])
        self.assertEqual(last_ones(2, *calls, need(0, 0, 16), need(0, 1, 16)), [-3, 0])

    def test_needs_from_the_filing_count(self):
        calls = [make_class(5)] + [file(0)] * 20
        self.assertEqual(last(*calls, file(0, 0, range(15)), need(0, 20, 19)), 0)
        self.assertEqual(last(*calls, file(0, 0, range(16)), need(0, 20, 19)), -3)

    def test_a_refused_need_keeps_nothing(self):
        calls = [make_class(5), make_class(50)] + [file(0)] * 17 + [file(0, 1, range(16))]
        self.assertEqual(last_ones(3, *calls, need(0, 17, 16), ask(5, 15), ask(5, 16)), [-3, HERE, GONE])

    def test_refusals_in_order(self):
        calls = [make_class(5)] + [file(0)] * 20 + [file(0, 0, range(16))]
        self.assertEqual(last(*calls, need(0, 20, 21)), -4)
        self.assertEqual(last(*calls, need(0, 20, 15)), 1)
        self.assertEqual(last(*calls, need(0, 20, 16)), -3)


if __name__ == "__main__":
    unittest.main()
