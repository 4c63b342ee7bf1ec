import builtins
import contextlib
import inspect
import io
import sys
import time
import unittest
from unittest import mock

from helper import (HIGHEST, NEXT, TOLD, answered, ask, file, given, joined, last_ones, longer, make_class, matter,
                    more, need, release, thing, tick, went, when, why)
from keptuntil.office import answers


class Unchanging(list):
    """A list that refuses each change, so one that's taken back later is seen too."""

    def refuse(self, *ignored, **ignored_too):
        raise AssertionError("what was handed in was changed")

    append = extend = insert = pop = remove = reverse = sort = clear = refuse
    __setitem__ = __delitem__ = __iadd__ = __imul__ = refuse


CALLS = [
    make_class(10), make_class(20, 1), file(0, 0), file(0, 1, [0]), need(1, 0, 1), matter(2, [0, 1], [1]),
    more(3, 0, [0], [0]), longer(0, 15), thing(1), when(1), NEXT, tick(25), why(0), release(30, 0), ask(30, 1),
    file(30, 0, [9]), matter(29), thing(0), file(31, 1), when(2), NEXT, went(1), went(2), why(2), TOLD,
]
LINE = joined(CALLS)


class Answers(unittest.TestCase):
    def test_its_name_and_argument(self):
        self.assertEqual(list(inspect.signature(answers).parameters), ["calls"])
        self.assertEqual(answers(calls=[0, 5, 0]), [3, 0, 0, 0])

    def test_the_form_of_an_answer(self):
        self.assertEqual(answers([0, 5, 0]), [3, 0, 0, 0])
        self.assertEqual(answers([0, 5, 0, 0, 5, 1]), [3, 0, 0, 0, 3, 1, 0, 0])

    def test_the_form_of_a_refusal(self):
        self.assertEqual(answers([1, 0, 5]), [3, -4, 0, 0])
        self.assertEqual(answers([0, 5, 2]), [3, -1, 0, 0])

    def test_each_call_by_its_number(self):
        self.assertEqual(answers([0, 10, 1]), [3, 0, 0, 0])
        start = [0, 10, 1, 2, 5, 0, 0]
        self.assertEqual(answers(start)[4:], [3, 0, 0, 0])
        self.assertEqual(answers(start + [1, 0, 11])[8:], [3, 0, 0, 0])
        self.assertEqual(answers(start + [2, 5, 0, 1, 0])[8:], [3, 1, 0, 0])
        self.assertEqual(answers(start + [3, 5, 0, 0])[8:], [3, 0, 0, 0])
        self.assertEqual(answers(start + [4, 5, 1, 0, 1, 0])[8:], [3, 0, 0, 0])
        self.assertEqual(answers(start + [4, 5, 0, 0, 5, 5, 0, 1, 0, 1, 0])[8:], [3, 0, 0, 0, 3, 0, 0, 0])
        self.assertEqual(answers(start + [4, 5, 0, 0, 6, 5, 0])[8:], [3, 0, 0, 0, 3, 0, 0, 0])
        self.assertEqual(answers(start + [7, 5, 0])[8:], [3, 0, 0, 0])
        self.assertEqual(answers(start + [7, 5, 0, 7, 5, 0])[8:], [3, 0, 0, 0, 3, 1, 0, 0])

    def test_each_telling_call_by_its_number(self):
        start = [0, 10, 1, 0, 90, 0, 2, 5, 0, 0, 2, 5, 1, 1, 0]
        self.assertEqual(answers(start + [9, 1])[16:], [8, 0, 0, 5, 1, 5, 95, 0, 0])
        self.assertEqual(answers(start + [10, 0])[16:], [4, 0, 0, 1, 95])
        self.assertEqual(answers(start + [11])[16:], [5, 0, 0, 2, 0, 95])
        self.assertEqual(answers(start + [12, 0])[16:], [3, 1, 0, 0])
        self.assertEqual(answers(start + [13, 0])[16:], [3, -4, 0, 0])
        self.assertEqual(answers(start + [14])[16:], [9, 0, 0, 6, 5, 2, 2, 2, 0, 0])
        self.assertEqual(answers(start + [8, 15, 12, 0])[16:], [3, 0, 0, 0, 4, 3, 0, 1, 1])
        self.assertEqual(answers(start + [8, 95, 13, 1])[16:], [5, 2, 0, 2, 0, 1, 5, 0, 0, 2, 1, 95])

    def test_calls_one_behind_another(self):
        told = [[0], [1], [0], [1], [0], [0], [0], [0], [0, 1, 0, 20, 0, 0], [1], [1], [0], [2], [0], [1], [-4], [-5],
                [1, 0, 0, 15, 30, 1], [2], [0, 51], [0, 2, 51], [0, 1, 30], [-4], [1], [0, 31, 2, 3, 1, 0, 2]]
        self.assertEqual(given(*CALLS), told)
        self.assertEqual(answers(LINE), joined([2 + len(each), each[0], 0, len(each) - 1, *each[1:]] for each in told))

    def test_rows_that_are_refused_are_read_to_their_end(self):
        long_rows = [file(0, 0, [7] * 300), matter(0, [7] * 300, [7] * 300), more(0, 0, [7] * 300, [7] * 300),
                     file(0, 0, [HIGHEST] * 3), matter(0, [], [HIGHEST]), matter(0, [HIGHEST], [])]
        self.assertEqual(answered(*long_rows, make_class(5)), [-2, -2, -2, -1, -4, -4, 0])

    def test_it_gives_back_a_list_of_ints(self):
        back = answers(LINE)
        self.assertIs(type(back), list)
        self.assertEqual({type(number) for number in back}, {int})

    def test_numbers_up_to_the_highest(self):
        calls = [make_class(5, 1), file(0), make_class(HIGHEST, HIGHEST), longer(HIGHEST, HIGHEST),
                 file(HIGHEST, HIGHEST, [HIGHEST]), need(HIGHEST, HIGHEST, HIGHEST), matter(HIGHEST, [HIGHEST], [HIGHEST]),
                 more(HIGHEST, HIGHEST, [HIGHEST], [HIGHEST]), release(HIGHEST, HIGHEST), ask(HIGHEST, HIGHEST),
                 file(0, HIGHEST), need(0, HIGHEST, HIGHEST), more(0, HIGHEST), release(0, HIGHEST), ask(0, HIGHEST),
                 tick(HIGHEST), thing(HIGHEST), when(HIGHEST), why(HIGHEST), went(HIGHEST)]
        self.assertEqual(last_ones(18, *calls), [-1, -4] + [-1] * 6 + [-4] * 5 + [-1] + [-4] * 4)


class NothingIsKept(unittest.TestCase):
    def test_the_same_list_twice(self):
        handed_in = list(LINE)
        first = answers(handed_in)
        self.assertEqual(answers(handed_in), first)
        answers(joined([make_class(1)] * 17 + [file(9)] + [matter(2 ** 40 - 1)] * 33))
        self.assertEqual(answers(handed_in), first)

    def test_an_answer_that_is_changed_changes_no_other(self):
        first = answers(LINE)
        copy = list(first)
        first.clear()
        self.assertEqual(answers(LINE), copy)

    def test_what_is_handed_in_is_unchanged(self):
        handed_in = Unchanging(LINE)
        self.assertEqual(answers(handed_in), answers(LINE))
        self.assertEqual(list(handed_in), LINE)


class NothingIsDoneBeside(unittest.TestCase):
    def test_it_prints_reads_and_imports_nothing(self):
        out, err = io.StringIO(), io.StringIO()
        refuse = mock.Mock(side_effect=AssertionError("done beside"))
        with contextlib.redirect_stdout(out), contextlib.redirect_stderr(err), \
                mock.patch.object(builtins, "open", refuse), mock.patch.object(builtins, "input", refuse), \
                mock.patch.object(builtins, "__import__", refuse), mock.patch.object(sys, "stdin", None):
            answers(LINE)
        self.assertEqual((out.getvalue(), err.getvalue()), ("", ""))


class Long(unittest.TestCase):
    def test_400_calls(self):
        calls = [make_class(5), make_class(0)] + [file(0)] * 200 + [file(3, 1)] * 56 + [file(4)] * 42 + [ask(9, 0)] * 100
        self.assertEqual(len(calls), 400)
        self.assertEqual(answered(*calls), [0, 1, *range(256)] + [-3] * 42 + [1] * 100)

    def test_16000_numbers(self):
        calls = [make_class(5)] + [file(0)] * 256 + [matter(0, range(256))] * 32
        calls += [more(1, x, range(256)) for x in range(24)]
        calls += [matter(1, range(300))]
        calls += [more(1, 0, [], range(16000 - len(joined(calls)) - 5))]
        self.assertEqual(len(joined(calls)), 16000)
        self.assertEqual(answered(*calls), [0, *range(256), *range(32)] + [0] * 24 + [-2, -4])

    def densest(self):
        """256 things that need 16 others each, all held by each of 32 matters but for the last."""
        calls = [make_class(5)] + [file(0, 0, range(max(x - 16, 0), x)) for x in range(256)]
        return calls + [matter(0, range(255))] * 31 + [matter(0), more(0, 31, range(255))]

    def test_the_densest_needs_in_little_time(self):
        start = time.process_time()
        for call, answer in ((when(255), [0, 5]), (NEXT, [0, 255, 5]), (tick(4), [0]), (matter(4), [-3])):
            calls = self.densest()
            calls += [call] * (400 - len(calls))
            self.assertEqual(given(*calls)[290:], [answer] * 110)
        self.assertLess(time.process_time() - start, 20)

    def test_16000_numbers_of_needs_and_matters_in_little_time(self):
        start = time.process_time()
        calls = self.densest()
        calls += [NEXT] * 99 + [more(0, x, range(240)) for x in range(10)]
        calls += [more(0, 9, range(16000 - len(joined(calls)) - 5))]
        self.assertEqual((len(calls), len(joined(calls))), (400, 16000))
        self.assertEqual(given(*calls)[290:], [[0, 255, 5]] * 99 + [[0]] * 11)
        self.assertLess(time.process_time() - start, 10)

    def test_a_chain_as_long_as_can_be_without_calls_as_deep(self):
        chain = [make_class(5), make_class(50), file(0)] + [file(0, 0, [x]) for x in range(254)]
        calls = [*chain, file(0, 1, [254]), when(0), NEXT, ask(49, 0), why(0), tick(50), thing(0)]
        limit = sys.getrecursionlimit()
        sys.setrecursionlimit(len(inspect.stack()) + 40)
        try:
            told = given(*calls)
        finally:
            sys.setrecursionlimit(limit)
        self.assertEqual(told[-6:], [[0, 50], [0, 0, 50], [-9], [3, 1], [256, *range(256)], [1, 0, 0, 5, 50]])

    def test_a_circle_through_256_things(self):
        circle = [make_class(5), file(0)] + [file(0, 0, [x]) for x in range(255)] + [need(0, 0, 255)]
        calls = [*circle, matter(0, [128]), ask(50, 0), ask(50, 255), release(50, 0), ask(50, 0), ask(50, 255)]
        self.assertEqual(last_ones(5, *calls), [-9, -9, 0, 1, 1])


if __name__ == "__main__":
    unittest.main()
