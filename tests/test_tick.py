import unittest

from helper import (HIGHEST, MOMENT_END, TOLD, ask, file, given, given_last, make_class, matter, need, release, thing,
                    tick, went)
from keptuntil.office import answers


class TickMoments(unittest.TestCase):
    def test_the_highest_moment(self):
        self.assertEqual(given_last(tick(MOMENT_END - 1)), [0])

    def test_a_moment_too_high(self):
        for moment in (MOMENT_END, MOMENT_END + 1, HIGHEST):
            calls = [make_class(5), file(3), tick(moment)]
            self.assertEqual(given(*calls, TOLD)[2:], [[-1], [0, 3, 1, 1, 1, 0, 0]])

    def test_equal_to_the_last_one_told(self):
        self.assertEqual(given(tick(0), tick(7), tick(7), TOLD), [[0], [0], [0], [0, 7, 0, 0, 0, 0, 0]])

    def test_below_the_last_one_told(self):
        calls = [make_class(5), file(3), tick(7), tick(6), tick(0)]
        self.assertEqual(given(*calls, TOLD)[2:], [[0], [-5], [-5], [0, 7, 1, 1, 1, 0, 0]])

    def test_it_tells_its_moment(self):
        self.assertEqual(given(tick(7), matter(6), matter(7), TOLD), [[0], [-5], [0], [0, 7, 0, 0, 0, 1, 0]])


class WhatWent(unittest.TestCase):
    def test_nothing_is_there(self):
        self.assertEqual(answers([8, 5]), [3, 0, 0, 0])

    def test_nothing_went(self):
        calls = [make_class(10), file(0), file(0)]
        self.assertEqual(given_last(*calls, tick(9)), [0])
        self.assertEqual(given_last(*calls, matter(0, [], [0]), tick(50)), [0])

    def test_one_went(self):
        self.assertEqual(answers([0, 10, 0, 2, 0, 0, 0, 8, 10]), [3, 0, 0, 0, 3, 0, 0, 0, 4, 1, 0, 1, 0])

    def test_its_number_is_how_many_went_not_which(self):
        calls = [make_class(10), make_class(50), file(0, 1), file(0, 1), file(0, 0)]
        self.assertEqual(given_last(*calls, tick(10)), [1, 2])

    def test_several_at_once_by_rising_numbers(self):
        calls = [make_class(30), make_class(20), make_class(10), file(0, 0), file(0, 1), file(0, 2)]
        self.assertEqual(given_last(*calls, tick(30)), [3, 0, 1, 2])
        calls = [make_class(10), make_class(20), make_class(30), file(0, 0), file(0, 1), file(0, 2)]
        self.assertEqual(given_last(*calls, tick(30)), [3, 0, 1, 2])

    def test_chains_and_circles_by_rising_numbers(self):
        one_way = [make_class(10), file(0)] + [file(0, 0, [x]) for x in range(4)]
        other_way = [make_class(10)] + [file(0)] * 5 + [need(0, x, x + 1) for x in range(4)]
        for calls in (one_way, other_way, one_way + [need(0, 0, 4)], other_way + [need(0, 4, 0)]):
            self.assertEqual(given_last(*calls, tick(10)), [5, 0, 1, 2, 3, 4])

    def test_some_stay(self):
        calls = [make_class(10), make_class(50)] + [file(0, x % 2) for x in range(6)] + [need(0, 5, 2)]
        self.assertEqual(given(*calls, tick(49), tick(50))[-2:], [[2, 0, 4], [4, 1, 2, 3, 5]])

    def test_256_at_once(self):
        calls = [make_class(10)] + [file(0)] * 256
        self.assertEqual(given(*calls, tick(9), tick(10), tick(10))[-3:], [[0], [256, *range(256)], [0]])


class ToldOnce(unittest.TestCase):
    def test_what_went_at_an_earlier_tick(self):
        calls = [make_class(30), make_class(20), make_class(10), file(0, 0), file(0, 1), file(0, 2)]
        ticks = [tick(10), tick(10), tick(20), tick(29), tick(30), tick(31)]
        self.assertEqual(given(*calls, *ticks)[-6:], [[1, 2], [0], [1, 1], [0], [1, 0], [0]])

    def test_what_another_call_with_the_same_moment_let_go(self):
        calls = [make_class(10), make_class(50), file(0, 0), file(0, 1), matter(0)]
        others = [file(10), need(10, 1, 1), matter(10), matter(10, [0]), release(10, 0), release(10, 9), ask(10, 1)]
        for call in others:
            self.assertEqual(given(*calls, call, tick(10), went(0), went(1))[-3:], [[0], [0, 0, 10], [-4]])

    def test_what_an_earlier_call_let_go(self):
        calls = [make_class(10), file(0), file(1), matter(10)]
        self.assertEqual(given(*calls, tick(10), tick(11), tick(12))[-3:], [[0], [1, 1], [0]])

    def test_what_went_behind_an_act_with_the_same_moment(self):
        self.assertEqual(given(make_class(0), file(7), tick(7), thing(0))[2:], [[0], [1, 0, 7, 7, 7]])
        asked = [make_class(10, 1), file(0), ask(5, 0)]
        self.assertEqual(given_last(*asked, tick(5)), [0])
        released = [make_class(10), file(0), matter(0, [0]), release(20, 0)]
        self.assertEqual(given_last(*released, tick(20)), [0])

    def test_what_a_refused_tick_would_have_let_go(self):
        calls = [make_class(10), file(0), tick(MOMENT_END), tick(9), tick(8), tick(10)]
        self.assertEqual(given(*calls)[2:], [[-1], [0], [-5], [1, 0]])


if __name__ == "__main__":
    unittest.main()
