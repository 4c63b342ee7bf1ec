import unittest

from helper import (HIGHEST, MOMENT_END, NEXT, TOLD, ask, file, given, given_last, longer, make_class, matter, more,
                    need, release, thing, tick, went, when, why)
from keptuntil.office import answers


def all_that_went(*calls):
    """What went tells from 0 on, up to the first refusal."""
    many = given_last(*calls, TOLD)[-1]
    told = given(*calls, *[went(i) for i in range(many + 1)])[len(calls):]
    if told[-1] != [-4] or [answer[0] for answer in told[:-1]] != [0] * many:
        raise AssertionError(f"{many} went, but went tells {told}")
    return [tuple(answer[1:]) for answer in told[:-1]]


class Went(unittest.TestCase):
    def test_its_form(self):
        line = [0, 10, 0, 0, 50, 0, 2, 0, 1, 0, 2, 0, 0, 0, 8, 12, 13, 0]
        self.assertEqual(answers(line)[-6:], [5, 0, 0, 2, 1, 12])

    def test_fewer_went(self):
        self.assertEqual(answers([13, 0]), [3, -4, 0, 0])
        self.assertEqual(given_last(make_class(10), file(0), tick(9), went(0)), [-4])
        for i in (1, 2, 255, 256, HIGHEST):
            self.assertEqual(given_last(make_class(10), file(0), tick(10), went(i)), [-4])

    def test_each_in_the_order_in_which_they_went(self):
        calls = [make_class(30), make_class(20), make_class(10), file(0, 0), file(0, 1), file(0, 2), file(0, 1)]
        self.assertEqual(all_that_went(*calls, tick(10), tick(25), tick(40)), [(2, 10), (1, 25), (3, 25), (0, 40)])

    def test_at_once_by_rising_numbers(self):
        calls = [make_class(30), make_class(20), make_class(10), file(0, 0), file(0, 1), file(0, 2)]
        self.assertEqual(all_that_went(*calls, tick(30)), [(0, 30), (1, 30), (2, 30)])

    def test_before_the_act_and_behind_it_in_the_same_call(self):
        # At 20 the last goes ahead of the asking, and what is asked for behind it.
        calls = [make_class(50, 1), make_class(20), file(0, 0), file(0, 1), ask(20, 0)]
        self.assertEqual(all_that_went(*calls), [(1, 20), (0, 20)])

    def test_before_a_release_and_behind_it(self):
        calls = [make_class(10), make_class(20), file(0, 0), file(0, 0, [0]), file(0, 1), file(0, 1), matter(0, [1])]
        self.assertEqual(all_that_went(*calls, release(20, 0)), [(2, 20), (3, 20), (0, 20), (1, 20)])

    def test_before_a_filing_and_behind_it(self):
        calls = [make_class(10), make_class(0), file(0, 0), file(0, 0), file(10, 1)]
        self.assertEqual(all_that_went(*calls), [(0, 10), (1, 10), (2, 10)])

    def test_at_a_refused_call(self):
        calls = [make_class(10), file(0), file(0), release(13, 0)]
        self.assertEqual(all_that_went(*calls), [(0, 13), (1, 13)])

    def test_not_at_a_refused_moment(self):
        calls = [make_class(10), file(0), tick(5), tick(MOMENT_END), tick(4), file(HIGHEST)]
        self.assertEqual(all_that_went(*calls), [])

    def test_at_0(self):
        self.assertEqual(all_that_went(make_class(0), file(0), file(0)), [(0, 0), (1, 0)])

    def test_at_the_highest_moment(self):
        calls = [make_class(10), file(0), tick(MOMENT_END - 1)]
        self.assertEqual(all_that_went(*calls), [(0, MOMENT_END - 1)])

    def test_each_once(self):
        calls = [make_class(10), file(0), file(5), tick(10), tick(10), longer(0, 99), tick(10), matter(11, [], [0])]
        self.assertEqual(all_that_went(*calls), [(0, 10)])
        self.assertEqual(all_that_went(*calls, release(500, 0), tick(501), tick(502)), [(0, 10), (1, 500)])

    def test_telling_changes_nothing(self):
        calls = [make_class(10), file(0), tick(10), went(0), went(0), went(1), went(0)]
        self.assertEqual(given(*calls)[3:], [[0, 0, 10], [0, 0, 10], [-4], [0, 0, 10]])

    def test_256(self):
        calls = [make_class(10)] + [file(0)] * 256 + [tick(10)]
        told = given(*calls, *[went(i) for i in range(140)])[len(calls):]
        self.assertEqual(told, [[0, i, 10] for i in range(140)])
        self.assertEqual(given(*calls, went(255), went(256))[-2:], [[0, 255, 10], [-4]])


class Told(unittest.TestCase):
    def test_its_form(self):
        self.assertEqual(answers([14]), [9, 0, 0, 6, 0, 0, 0, 0, 0, 0])

    def test_at_the_beginning(self):
        self.assertEqual(given(TOLD, TOLD), [[0, 0, 0, 0, 0, 0, 0]] * 2)

    def test_each_of_the_six_is_its_own(self):
        calls = [make_class(10)] * 2 + [make_class(90)] + [file(0, 0)] * 4 + [file(0, 2)] * 5 + [matter(0)] * 8
        calls += [release(0, 3), tick(17)]
        self.assertEqual(given_last(*calls, TOLD), [0, 17, 3, 9, 5, 7, 4])

    def test_behind_each_kind_of_call(self):
        steps = [
            (make_class(10, 1), [0, 1, 0, 0, 0, 0]),
            (make_class(50), [0, 2, 0, 0, 0, 0]),
            (file(3, 0), [3, 2, 1, 1, 0, 0]),
            (file(4, 1, [0]), [4, 2, 2, 2, 0, 0]),
            (file(4, 0), [4, 2, 3, 3, 0, 0]),
            (longer(0, 11), [4, 2, 3, 3, 0, 0]),
            (need(5, 1, 1), [5, 2, 3, 3, 0, 0]),
            (need(6, 1, 0), [6, 2, 3, 3, 0, 0]),
            (matter(7, [1]), [7, 2, 3, 3, 1, 0]),
            (matter(7), [7, 2, 3, 3, 2, 0]),
            (more(8, 1, [2]), [8, 2, 3, 3, 2, 0]),
            (ask(9, 2), [9, 2, 3, 3, 2, 0]),
            (release(10, 1), [10, 2, 3, 2, 1, 1]),
            (tick(11), [11, 2, 3, 2, 1, 1]),
            (tick(100), [100, 2, 3, 2, 1, 1]),
            (release(101, 0), [101, 2, 3, 0, 0, 3]),
            (ask(102, 0), [102, 2, 3, 0, 0, 3]),
            (thing(0), [102, 2, 3, 0, 0, 3]),
            (when(0), [102, 2, 3, 0, 0, 3]),
            (NEXT, [102, 2, 3, 0, 0, 3]),
            (why(0), [102, 2, 3, 0, 0, 3]),
            (went(0), [102, 2, 3, 0, 0, 3]),
            (TOLD, [102, 2, 3, 0, 0, 3]),
        ]
        calls = []
        for call, six in steps:
            calls += [call]
            self.assertEqual(given_last(*calls, TOLD), [0, *six], call)
        # Told at each step or only at the end makes no difference.
        between = [part for call, six in steps for part in (call, TOLD)]
        self.assertEqual(given(*between)[1::2], [[0, *six] for call, six in steps])


class ToldBehindARefusal(unittest.TestCase):
    # At 10 two of the four are due; one matter of two stands.
    START = [make_class(10), make_class(50, 1), file(0, 0), file(0, 0), file(0, 1), file(0, 1), matter(1, [2]),
             matter(1), release(2, 1)]
    BEFORE = [0, 2, 2, 4, 4, 1, 0]

    def refused_at(self, moment):
        return [file(moment, 9), file(moment, 0, [9]), file(moment, 0, [3, 2]), file(moment, 0, range(17)),
                need(moment, 9, 2), need(moment, 2, 9), need(moment, 0, 0) if moment >= 10 else need(moment, 9, 9),
                matter(moment, [9]), matter(moment, [], [2]), matter(moment, [3, 2]), matter(moment, range(257)),
                more(moment, 9), more(moment, 1), more(moment, 0, [9]), more(moment, 0, [], [1, 0]),
                more(moment, 0, [], range(257)), release(moment, 9), release(moment, 1), ask(moment, 9)]

    def test_one_that_is_refused_behind_its_moment_still_tells_the_moment(self):
        for call in self.refused_at(9):
            told = given(*self.START, call, TOLD)[-2:]
            self.assertLess(told[0][0], 0)
            self.assertEqual(told[1], [0, 9, 2, 4, 4, 1, 0], call)

    def test_and_what_went_is_gone(self):
        for call in self.refused_at(10):
            told = given(*self.START, call, TOLD)[-2:]
            self.assertLess(told[0][0], 0)
            self.assertEqual(told[1], [0, 10, 2, 4, 2, 1, 2], call)

    def test_ask_of_one_whose_class_doesn_t_let_it(self):
        self.assertEqual(given(*self.START, ask(9, 0), TOLD)[-2:], [[-9], [0, 9, 2, 4, 4, 1, 0]])

    def test_ask_of_one_that_goes_at_this_moment(self):
        self.assertEqual(given(*self.START, ask(10, 0), TOLD)[-2:], [[1], [0, 10, 2, 4, 2, 1, 2]])

    def test_one_whose_moment_is_refused_changes_none_of_the_six(self):
        for moment, refusal in ((MOMENT_END, -1), (HIGHEST, -1), (1, -5), (0, -5)):
            doing = [file(moment), need(moment, 2, 3), matter(moment), more(moment, 0, [3]), release(moment, 0),
                     ask(moment, 3), tick(moment)]
            for call in doing + self.refused_at(moment):
                self.assertEqual(given(*self.START, call, TOLD)[-2:], [[refusal], self.BEFORE], call)

    def test_calls_without_a_moment(self):
        for call in (make_class(2 ** 39), make_class(1, 2), longer(2, 90), longer(0, 9), longer(0, 2 ** 39), thing(4),
                     when(4), why(4), went(0)):
            told = given(*self.START, call, TOLD)[-2:]
            self.assertLess(told[0][0], 0)
            self.assertEqual(told[1], self.BEFORE, call)

    def test_where_there_is_no_room_for_more(self):
        self.assertEqual(given(*[make_class(5)] * 17, TOLD)[-2:], [[-3], [0, 0, 16, 0, 0, 0, 0]])
        self.assertEqual(given(*[matter(3)] * 32, matter(4), TOLD)[-2:], [[-3], [0, 4, 0, 0, 0, 32, 0]])
        calls = [make_class(5)] + [file(0)] * 256 + [file(4)]
        self.assertEqual(given(*calls, TOLD)[-2:], [[-3], [0, 4, 1, 256, 256, 0, 0]])
        calls = [make_class(5)] + [file(0)] * 17 + [need(0, 0, y) for y in range(16)] + [need(4, 0, 16)]
        self.assertEqual(given(*calls, TOLD)[-2:], [[-3], [0, 4, 1, 17, 17, 0, 0]])


if __name__ == "__main__":
    unittest.main()
