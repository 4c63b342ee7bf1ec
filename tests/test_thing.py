import unittest

from helper import (HIGHEST, KEEP_END, MOMENT_END, ask, file, given, given_last, longer, make_class, matter, need,
                    release, thing, tick)
from keptuntil.office import answers


class OneThatIsHere(unittest.TestCase):
    def test_its_form(self):
        self.assertEqual(answers([0, 10, 0, 2, 100, 0, 0, 9, 0])[-8:], [7, 0, 0, 4, 0, 100, 110, 0])

    def test_its_class_its_filing_and_its_due(self):
        calls = [make_class(10), make_class(20), file(100, 1), file(103, 0)]
        self.assertEqual(given(*calls, thing(0), thing(1))[-2:], [[0, 1, 100, 120, 0], [0, 0, 103, 113, 0]])

    def test_the_latest_due(self):
        calls = [make_class(KEEP_END - 1), file(MOMENT_END - 1)]
        self.assertEqual(given_last(*calls, thing(0)), [0, 0, MOMENT_END - 1, MOMENT_END + KEEP_END - 2, 0])

    def test_one_that_is_held_past_its_due(self):
        calls = [make_class(10), file(100), matter(100, [0]), tick(500)]
        self.assertEqual(given_last(*calls, thing(0)), [0, 0, 100, 110, 0])

    def test_it_is_told_as_often_as_one_likes(self):
        calls = [make_class(10), file(0), thing(0), thing(0)]
        self.assertEqual(given(*calls)[2:], [[0, 0, 0, 10, 0]] * 2)


class OneThatIsGone(unittest.TestCase):
    def test_when_it_went(self):
        calls = [make_class(10), file(100)]
        self.assertEqual(given_last(*calls, tick(110), thing(0)), [1, 0, 100, 110, 110])
        self.assertEqual(given_last(*calls, tick(115), thing(0)), [1, 0, 100, 110, 115])
        self.assertEqual(given_last(*calls, tick(115), tick(120), thing(0)), [1, 0, 100, 110, 115])

    def test_gone_at_0(self):
        self.assertEqual(given_last(make_class(0), file(0), thing(0)), [1, 0, 0, 0, 0])
        self.assertEqual(given_last(make_class(9, 1), file(0), ask(0, 0), thing(0)), [1, 0, 0, 0, 0])

    def test_gone_at_the_highest_moment(self):
        calls = [make_class(10), file(0), tick(MOMENT_END - 1), thing(0)]
        self.assertEqual(given_last(*calls), [1, 0, 0, 10, MOMENT_END - 1])

    def test_gone_at_a_moment_that_brought_a_refusal(self):
        self.assertEqual(given_last(make_class(10), file(0), ask(12, 9), thing(0)), [1, 0, 0, 10, 12])

    def test_it_still_tells_what_it_needs(self):
        calls = [make_class(10), make_class(50), file(0, 1), file(0, 0), file(0, 0, [0, 1])]
        told = given(*calls, tick(10), thing(2), tick(50), thing(2))
        self.assertEqual([told[-3], told[-1]], [[1, 0, 0, 10, 10, 0, 1]] * 2)

    def test_it_needs_nothing_more_by_a_refused_need(self):
        calls = [make_class(10), make_class(50), file(0, 1), file(0, 0), need(10, 1, 0)]
        self.assertEqual(given_last(*calls, thing(1)), [1, 0, 0, 10, 10])


class OneThatIsNotThere(unittest.TestCase):
    def test_refused(self):
        for x in (0, 1, HIGHEST):
            self.assertEqual(answers([9, x]), [3, -4, 0, 0])
        for x in (1, 2, 255, 256, HIGHEST):
            self.assertEqual(given_last(make_class(10), file(0), thing(x)), [-4])

    def test_one_whose_filing_was_refused(self):
        for refused in (file(0, 1), file(0, 0, [0]), file(0, 0, [2, 1]), file(MOMENT_END)):
            self.assertEqual(given_last(make_class(10), refused, thing(0)), [-4])

    def test_the_256th_is_the_last(self):
        calls = [make_class(10)] + [file(0)] * 257
        self.assertEqual(given(*calls, thing(255), thing(256))[-2:], [[0, 0, 0, 10, 0], [-4]])


class WhatItNeeds(unittest.TestCase):
    def test_by_its_filing(self):
        calls = [make_class(10)] + [file(0)] * 5 + [file(0, 0, [1, 3, 4])]
        self.assertEqual(given_last(*calls, thing(5)), [0, 0, 0, 10, 0, 1, 3, 4])

    def test_added_in_falling_order(self):
        calls = [make_class(10)] + [file(0)] * 5 + [need(0, 2, y) for y in (4, 3, 1, 0)]
        self.assertEqual(given_last(*calls, thing(2)), [0, 0, 0, 10, 0, 0, 1, 3, 4])

    def test_added_between_those_of_its_filing(self):
        calls = [make_class(10)] + [file(0)] * 6 + [file(0, 0, [1, 4])] + [need(0, 6, y) for y in (5, 2, 6, 0)]
        self.assertEqual(given_last(*calls, thing(6)), [0, 0, 0, 10, 0, 0, 1, 2, 4, 5, 6])

    def test_rising_by_number_not_by_text(self):
        calls = [make_class(10)] + [file(0)] * 101 + [need(0, 3, y) for y in (100, 20, 3)]
        self.assertEqual(given_last(*calls, thing(3)), [0, 0, 0, 10, 0, 3, 20, 100])

    def test_itself(self):
        self.assertEqual(given_last(make_class(10), file(0), need(0, 0, 0), thing(0)), [0, 0, 0, 10, 0, 0])

    def test_no_need_twice(self):
        calls = [make_class(10), file(0), file(0, 0, [0]), need(0, 1, 0)]
        self.assertEqual(given(*calls, thing(1))[-2:], [[1], [0, 0, 0, 10, 0, 0]])

    def test_not_what_needs_it(self):
        calls = [make_class(10), file(0), file(0, 0, [0])]
        self.assertEqual(given_last(*calls, thing(0)), [0, 0, 0, 10, 0])

    def test_16(self):
        calls = [make_class(10)] + [file(0)] * 17 + [need(0, 0, y) for y in range(16, -1, -1)]
        told = given(*calls, thing(0))
        self.assertEqual(told[-2:], [[-3], [0, 0, 0, 10, 0, *range(1, 17)]])

    def test_the_needs_of_others_are_their_own(self):
        # Two that were filed with the same row must not share it.
        calls = [make_class(10), file(0), file(0, 0, [0]), file(0, 0, [0]), need(0, 1, 2)]
        self.assertEqual(given(*calls, thing(1), thing(2))[-2:], [[0, 0, 0, 10, 0, 0, 2], [0, 0, 0, 10, 0, 0]])


class ItsDue(unittest.TestCase):
    def test_behind_longer(self):
        calls = [make_class(10), make_class(10), file(100, 0), file(100, 1), longer(0, 30), file(101, 0)]
        self.assertEqual([told[3] for told in given(*calls, thing(0), thing(1), thing(2))[-3:]], [130, 110, 131])

    def test_behind_a_refused_longer(self):
        for refused in (longer(0, 9), longer(0, KEEP_END), longer(1, 11)):
            self.assertEqual(given_last(make_class(10), file(100), refused, thing(0)), [0, 0, 100, 110, 0])

    def test_longer_leaves_what_is_gone(self):
        calls = [make_class(10), file(100), tick(112), longer(0, 30), thing(0)]
        self.assertEqual(given_last(*calls), [1, 0, 100, 110, 112])

    def test_longer_moves_what_is_kept_past_its_due(self):
        calls = [make_class(10), file(100), matter(100, [0]), tick(112), longer(0, 11), thing(0)]
        self.assertEqual(given_last(*calls), [0, 0, 100, 111, 0])

    def test_behind_ask(self):
        calls = [make_class(10, 1), file(100), matter(100, [0]), ask(105, 0)]
        self.assertEqual(given_last(*calls, thing(0)), [0, 0, 100, 105, 0])
        self.assertEqual(given_last(*calls, longer(0, 90), thing(0)), [0, 0, 100, 105, 0])
        self.assertEqual(given_last(*calls, ask(106, 0), thing(0)), [0, 0, 100, 105, 0])
        self.assertEqual(given_last(*calls, release(107, 0), thing(0)), [1, 0, 100, 105, 107])

    def test_behind_an_ask_that_it_went_by(self):
        self.assertEqual(given_last(make_class(10, 1), file(100), ask(105, 0), thing(0)), [1, 0, 100, 105, 105])

    def test_an_ask_at_its_due_or_later_moves_nothing(self):
        for moment in (110, 111, 500):
            calls = [make_class(10, 1), file(100), matter(100, [0]), ask(moment, 0)]
            self.assertEqual(given_last(*calls, thing(0)), [0, 0, 100, 110, 0])

    def test_behind_a_refused_ask(self):
        calls = [make_class(10), file(100), ask(105, 0)]
        self.assertEqual(given(*calls, thing(0))[-2:], [[-9], [0, 0, 100, 110, 0]])

    def test_an_asking_for_one_that_is_gone_moves_nothing(self):
        calls = [make_class(10, 1), file(100), tick(112), ask(112, 0)]
        self.assertEqual(given(*calls, thing(0))[-2:], [[1], [1, 0, 100, 110, 112]])

    def test_asking_leaves_the_others(self):
        calls = [make_class(10, 1), file(100), file(100), ask(105, 0)]
        self.assertEqual(given_last(*calls, thing(1)), [0, 0, 100, 110, 0])


if __name__ == "__main__":
    unittest.main()
