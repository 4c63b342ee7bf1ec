import unittest

from helper import (GONE, HERE, HIGHEST, KEEP_END, MOMENT_END, NEXT, TOLD, ask, file, last, last_ones, longer,
                    make_class, matter, more, need, release, thing, tick, went, when, why)


def calls_at(moment):
    """Each call with a moment, as it is done behind START."""
    return [file(moment), need(moment, 0, 0), matter(moment, [0]), more(moment, 0, [0]),
            release(moment, 0), ask(moment, 0), tick(moment)]


def refused_at(moment):
    """Each call with a moment, as it would be refused behind START whatever its moment."""
    return [file(moment, 9), need(moment, 9, 9), matter(moment, [9]), more(moment, 9),
            release(moment, 9), ask(moment, 9), file(moment, 0, [1, 1]), file(moment, 0, range(17)),
            matter(moment, range(257)), matter(moment, [2, 1]), more(moment, 0, range(257)), more(moment, 0, [2, 1])]


START = [make_class(KEEP_END - 1, 1), file(0), matter(0)]


class Moments(unittest.TestCase):
    def test_the_highest_moment(self):
        for call in calls_at(MOMENT_END - 1):
            self.assertNotIn(last(make_class(0, 1), matter(0, [], [0]), file(0), call), (-1, -5))

    def test_a_moment_too_high(self):
        for moment in (MOMENT_END, MOMENT_END + 1, HIGHEST):
            for call in calls_at(moment):
                self.assertEqual(last(*START, call), -1)

    def test_the_last_moment_may_be_told_again(self):
        for call in calls_at(7):
            self.assertGreaterEqual(last(*START, need(7, 0, 0), call), 0)

    def test_a_moment_below_the_last(self):
        for call in calls_at(6):
            self.assertEqual(last(*START, need(7, 0, 0), call), -5)

    def test_0_is_the_last_at_first(self):
        self.assertEqual(last(matter(0)), 0)

    def test_each_call_tells_its_moment(self):
        for call in calls_at(7):
            self.assertEqual(last(*START, call, matter(6)), -5)
            self.assertEqual(last(*START, call, matter(7)), 2 if call[0] == 4 else 1)

    def test_a_moment_is_refused_ahead_of_all_else(self):
        for call in refused_at(MOMENT_END):
            self.assertEqual(last(*START, call), -1)
        for call in refused_at(6):
            self.assertEqual(last(*START, need(7, 0, 0), call), -5)

    def test_too_high_comes_ahead_of_below_the_last(self):
        # No moment is both; the highest one told leaves just the two sides of 2^40.
        calls = [matter(MOMENT_END - 1)]
        self.assertEqual(last(*calls, matter(MOMENT_END)), -1)
        self.assertEqual(last(*calls, matter(MOMENT_END - 2)), -5)
        self.assertEqual(last(*calls, matter(MOMENT_END - 1)), 1)

    def test_calls_without_a_moment_tell_none(self):
        calls = [make_class(9), longer(0, 500), make_class(KEEP_END), longer(0, 1), thing(7), when(7), NEXT, why(7),
                 went(7), TOLD]
        self.assertEqual(last(*calls, matter(0)), 0)


class RefusedMoments(unittest.TestCase):
    def test_a_moment_too_high_lets_nothing_go_and_isn_t_told(self):
        for call in calls_at(MOMENT_END) + refused_at(HIGHEST):
            calls = [make_class(5), file(0), matter(0)]
            self.assertEqual(last_ones(3, *calls, call, ask(4, 0), ask(5, 0)), [-1, HERE, GONE])

    def test_a_moment_below_the_last_changes_nothing(self):
        for call in calls_at(2) + refused_at(2):
            calls = [make_class(5), file(0), matter(3)]
            self.assertEqual(last_ones(4, *calls, call, matter(3), ask(4, 0), ask(5, 0)), [-5, 1, HERE, GONE])

    def test_what_is_asked_isn_t_done(self):
        # Behind a refused moment a release didn't release, a more named nothing and so on.
        start = [make_class(5, 1), file(3), matter(3, [0]), matter(3)]
        for moment, refusal in ((MOMENT_END, -1), (2, -5)):
            self.assertEqual(last_ones(2, *start, release(moment, 0), release(3, 0)), [refusal, 0])
            self.assertEqual(last_ones(3, *start, more(moment, 1, [0]), release(9, 0), ask(9, 0)), [refusal, 0, 1])
            self.assertEqual(last_ones(2, *start, matter(moment), matter(3)), [refusal, 2])
            self.assertEqual(last_ones(2, *start, file(moment), file(3)), [refusal, 1])
            self.assertEqual(last_ones(2, *start, need(moment, 0, 0), need(3, 0, 0)), [refusal, 0])
            asked = [*start, ask(moment, 0), release(4, 0)]
            self.assertEqual(last_ones(3, *asked, need(4, 0, 0)), [refusal, 0, 0])


class MomentsOfRefusedCalls(unittest.TestCase):
    def test_the_moment_is_told_all_the_same(self):
        for call in refused_at(7):
            self.assertLess(last(*START, call), 0)
            self.assertEqual(last_ones(2, *START, call, matter(6), matter(7)), [-5, 1])

    def test_what_went_is_gone(self):
        # Seen by longer: it would move a thing that is still here, and a gone one is left.
        for call in refused_at(5):
            calls = [make_class(5), file(0), matter(0), call, longer(0, 100)]
            self.assertEqual(last_ones(2, *calls, ask(5, 0)), [0, GONE])

    def test_what_is_kept_at_it_stays(self):
        for call in refused_at(4):
            calls = [make_class(5), file(0), matter(0), call, longer(0, 100)]
            self.assertEqual(last_ones(2, *calls, ask(99, 0)), [0, HERE])


if __name__ == "__main__":
    unittest.main()
