import unittest

from helper import (HIGHEST, MOMENT_END, ask, file, given, given_last, longer, make_class, matter, more, need, release,
                    tick, why)
from keptuntil.office import answers


class NotDue(unittest.TestCase):
    def test_below_its_due(self):
        self.assertEqual(answers([0, 10, 0, 2, 0, 0, 0, 12, 0])[-4:], [3, 1, 0, 0])
        self.assertEqual(given_last(make_class(10), file(0), tick(9), why(0)), [1])

    def test_not_due_comes_ahead_of_held_and_needed(self):
        calls = [make_class(10), make_class(50), file(0), file(0, 1, [0]), matter(0, [0]), tick(9)]
        self.assertEqual(given_last(*calls, why(0)), [1])

    def test_by_the_last_moment_told_not_by_the_last_refused(self):
        calls = [make_class(10), file(0), matter(0, [0]), tick(9), tick(MOMENT_END)]
        self.assertEqual(given_last(*calls, why(0)), [1])

    def test_a_moment_told_by_a_refused_call(self):
        calls = [make_class(10), file(0), matter(0, [0]), ask(10, 7)]
        self.assertEqual(given(*calls, why(0))[-2:], [[-4], [2]])

    def test_longer_makes_it_not_due_again(self):
        calls = [make_class(10), file(0), matter(0, [0]), tick(20), why(0), longer(0, 21), why(0)]
        self.assertEqual(given(*calls)[-3:], [[2], [0], [1]])

    def test_asking_makes_it_due(self):
        calls = [make_class(10, 1), file(0), matter(0, [0]), why(0), ask(5, 0), why(0)]
        self.assertEqual(given(*calls)[-3:], [[1], [0], [2]])


class DueAndHeld(unittest.TestCase):
    def test_at_its_due_and_later(self):
        calls = [make_class(10), file(0), matter(0, [0])]
        self.assertEqual(given(*calls, tick(9), why(0), tick(10), why(0))[-3:], [[1], [0], [2]])
        self.assertEqual(given_last(*calls, tick(500), why(0)), [2])

    def test_through_its_class(self):
        calls = [make_class(10), make_class(10), file(0, 1), matter(0), more(0, 0, [], [1]), tick(10)]
        self.assertEqual(given_last(*calls, why(0)), [2])

    def test_its_class_keeps_nothing(self):
        self.assertEqual(given_last(make_class(0), matter(0, [], [0]), file(0), why(0)), [2])

    def test_held_comes_ahead_of_needed_and_tells_nothing_more(self):
        calls = [make_class(10), make_class(50), file(0), file(0, 1, [0]), matter(0, [0]), tick(10)]
        self.assertEqual(given_last(*calls, why(0)), [2])

    def test_a_released_matter_holds_nothing(self):
        calls = [make_class(10), make_class(50), file(0), file(0, 1, [0]), matter(0, [0]), release(10, 0)]
        self.assertEqual(given_last(*calls, why(0)), [3, 1])


class Needed(unittest.TestCase):
    def test_by_one(self):
        line = [0, 10, 0, 0, 50, 0, 2, 0, 0, 0, 2, 0, 1, 1, 0, 8, 10, 12, 0]
        self.assertEqual(answers(line)[-5:], [4, 3, 0, 1, 1])

    def test_by_several_rising(self):
        calls = [make_class(10), make_class(50)] + [file(0, 1)] * 4 + [file(0, 0)] + [file(0, 1)] * 2
        calls += [need(0, x, 4) for x in (6, 3, 0, 5)] + [tick(10)]
        self.assertEqual(given_last(*calls, why(4)), [3, 0, 3, 5, 6])

    def test_not_one_that_is_gone(self):
        calls = [make_class(10), make_class(20), make_class(50), file(0)]
        calls += [file(0, 2, [0]), file(0, 1, [0]), file(0, 2, [0])]
        self.assertEqual(given(*calls, tick(19), why(0), tick(20), why(0))[-3:], [[3, 1, 2, 3], [1, 2], [3, 1, 3]])

    def test_not_what_it_needs_itself(self):
        calls = [make_class(10), make_class(50), file(0, 1), file(0, 0, [0]), file(0, 1, [1]), tick(10)]
        self.assertEqual(given_last(*calls, why(1)), [3, 2])

    def test_only_what_needs_it_at_one_step(self):
        calls = [make_class(10), make_class(50), file(0), file(0, 0, [0]), file(0, 1, [1]), tick(10)]
        self.assertEqual(given(*calls, why(0), why(1), why(2))[-3:], [[3, 1], [3, 2], [1]])

    def test_one_that_needs_itself(self):
        calls = [make_class(10), make_class(50), file(0), need(0, 0, 0), file(0, 1, [0]), tick(10)]
        self.assertEqual(given_last(*calls, why(0)), [3, 0, 1])

    def test_a_circle(self):
        calls = [make_class(10), make_class(50), file(0), file(0, 0, [0]), need(0, 0, 1), file(0, 1, [0]), tick(10)]
        self.assertEqual(given(*calls, why(0), why(1))[-2:], [[3, 1, 2], [3, 0]])

    def test_also_what_is_kept_only_by_others_or_held(self):
        calls = [make_class(10), file(0), file(0, 0, [0]), file(0, 0, [0, 1]), matter(0, [2]), tick(10)]
        self.assertEqual(given(*calls, why(0), why(1), why(2))[-3:], [[3, 1, 2], [3, 2], [2]])

    def test_255_of_them(self):
        calls = [make_class(10), make_class(50), file(0)] + [file(0, 1, [0])] * 255 + [tick(10)]
        self.assertEqual(given_last(*calls, why(0)), [3, *range(1, 256)])


class NotHere(unittest.TestCase):
    def test_one_that_is_gone(self):
        self.assertEqual(given_last(make_class(10), file(0), tick(10), why(0)), [-4])
        self.assertEqual(given_last(make_class(10), file(0), tick(10), matter(10, [], [0]), why(0)), [-4])

    def test_one_that_is_not_there(self):
        self.assertEqual(answers([12, 0]), [3, -4, 0, 0])
        for x in (1, 256, HIGHEST):
            self.assertEqual(given_last(make_class(10), file(0), why(x)), [-4])


if __name__ == "__main__":
    unittest.main()
