import unittest

from helper import (GONE, HERE, KEEP_END, answered, ask, file, last, last_ones, longer, make_class, matter, more, need,
                    release, tick)


class ByDue(unittest.TestCase):
    def test_it_is_here_below_its_due_and_gone_at_it(self):
        calls = [make_class(10), file(100)]
        self.assertEqual(last_ones(3, *calls, ask(100, 0), ask(109, 0), ask(110, 0)), [HERE, HERE, GONE])
        self.assertEqual(last(*calls, ask(5000, 0)), GONE)

    def test_the_longest_keep(self):
        calls = [make_class(KEEP_END - 1), file(100)]
        self.assertEqual(last_ones(2, *calls, ask(KEEP_END + 98, 0), ask(KEEP_END + 99, 0)), [HERE, GONE])

    def test_each_by_its_own_class_and_filing(self):
        calls = [make_class(10), make_class(20), file(0, 0), file(0, 1), file(5, 0)]
        probe = [ask(12, 0), ask(12, 1), ask(12, 2)]
        self.assertEqual(last_ones(3, *calls, *probe), [GONE, HERE, HERE])
        probe = [ask(15, 0), ask(15, 1), ask(15, 2)]
        self.assertEqual(last_ones(3, *calls, *probe), [GONE, HERE, GONE])

    def test_any_call_with_a_moment_lets_go(self):
        for call in (file(10), need(10, 1, 1), matter(10), more(10, 0), release(10, 0), ask(10, 1), tick(10)):
            calls = [make_class(10), make_class(50), file(0, 0), file(0, 1), matter(0), call, longer(0, 100)]
            self.assertEqual(last(*calls, ask(10, 0)), GONE)

    def test_a_gone_thing_is_never_here_again(self):
        calls = [make_class(10), file(0), ask(10, 0), longer(0, 100), matter(10, [], [0])]
        self.assertEqual(answered(*calls, ask(10, 0), ask(11, 0)), [0, 0, GONE, 0, 0, GONE, GONE])
        self.assertEqual(last(*calls, need(10, 0, 0)), -4)
        self.assertEqual(last(*calls, file(10, 0, [0])), -4)
        self.assertEqual(last(*calls, matter(10, [0])), -4)
        self.assertEqual(last(*calls, more(10, 0, [0])), -4)

    def test_it_goes_behind_its_own_filing_if_its_class_keeps_nothing(self):
        self.assertEqual(answered(make_class(0), file(7), ask(7, 0)), [0, 0, GONE])
        self.assertEqual(last(make_class(0), file(7), longer(0, 100), ask(7, 0)), GONE)

    def test_what_is_due_goes_ahead_of_what_is_asked(self):
        calls = [make_class(10), file(0)]
        self.assertEqual(last(*calls, matter(10, [0])), -4)
        self.assertEqual(last(*calls, file(10, 0, [0])), -4)
        self.assertEqual(last(*calls, need(10, 0, 0)), -4)
        self.assertEqual(last_ones(2, *calls, matter(10, [], [0]), ask(10, 0)), [0, GONE])


class Held(unittest.TestCase):
    def test_a_matter_holds_past_the_due(self):
        calls = [make_class(10), file(0), matter(9, [0])]
        self.assertEqual(last_ones(2, *calls, ask(10, 0), ask(5000, 0)), [HERE, HERE])

    def test_it_goes_with_the_release(self):
        calls = [make_class(10), file(0), matter(0, [0]), release(20, 0)]
        self.assertEqual(last(*calls, longer(0, 100), ask(20, 0)), 1)
        self.assertEqual(last(*calls, ask(20, 0)), GONE)

    def test_a_class_that_is_named_holds_its_things(self):
        calls = [make_class(10), make_class(10), file(0, 0), file(0, 1), matter(0, [], [1])]
        self.assertEqual(last_ones(2, *calls, ask(10, 0), ask(10, 1)), [GONE, HERE])

    def test_things_filed_later_are_held_too(self):
        calls = [make_class(10), matter(0, [], [0]), file(5), ask(50, 0)]
        self.assertEqual(last(*calls), HERE)
        self.assertEqual(last(*calls, release(50, 0), ask(50, 0)), GONE)

    def test_held_though_its_class_keeps_nothing(self):
        calls = [make_class(0), matter(0, [], [0]), file(5)]
        self.assertEqual(last(*calls, ask(5, 0)), HERE)
        self.assertEqual(last(*calls, release(5, 0), ask(5, 0)), GONE)

    def test_a_number_of_a_thing_isn_t_one_of_a_class(self):
        calls = [make_class(10), make_class(10), file(0, 0), file(0, 0), file(0, 1)]
        self.assertEqual(last_ones(3, *calls, matter(0, [1]), ask(10, 0), ask(10, 1), ask(10, 2)), [GONE, HERE, GONE])
        self.assertEqual(last_ones(3, *calls, matter(0, [], [1]), ask(10, 0), ask(10, 1), ask(10, 2)),
                         [GONE, GONE, HERE])

    def test_two_matters_hold_till_both_are_released(self):
        calls = [make_class(10), file(0), matter(0, [0]), matter(0, [0]), release(20, 1)]
        self.assertEqual(last(*calls, ask(20, 0)), HERE)
        self.assertEqual(last(*calls, release(21, 0), ask(21, 0)), GONE)

    def test_what_a_held_thing_needs_is_kept(self):
        calls = [make_class(10), file(0), file(0, 0, [0]), matter(0, [1])]
        self.assertEqual(last(*calls, ask(50, 0)), HERE)
        self.assertEqual(last_ones(2, *calls, release(50, 0), ask(50, 0), ask(50, 1)), [GONE, GONE])

    def test_asking_doesn_t_free_what_is_held(self):
        calls = [make_class(10, 1), make_class(10), file(0, 0), matter(0, [0]), ask(5, 0), ask(20, 0)]
        self.assertEqual(last(*calls, need(20, 0, 0)), 0)


class Needed(unittest.TestCase):
    def test_it_stays_as_long_as_something_kept_needs_it(self):
        calls = [make_class(10), make_class(50), file(0, 0), file(0, 1, [0])]
        self.assertEqual(last_ones(3, *calls, ask(49, 0), ask(50, 0), ask(50, 1)), [HERE, GONE, GONE])

    def test_what_needs_isn_t_kept_by_what_it_needs(self):
        calls = [make_class(50), make_class(10), file(0, 0), file(0, 1, [0])]
        self.assertEqual(last_ones(2, *calls, ask(10, 0), ask(10, 1)), [HERE, GONE])

    def test_two_that_need_it(self):
        calls = [make_class(10), make_class(30), make_class(50), file(0, 0), file(0, 1, [0]), file(0, 2, [0])]
        self.assertEqual(last_ones(2, *calls, ask(30, 0), ask(30, 1)), [HERE, GONE])
        self.assertEqual(last(*calls, ask(50, 0)), GONE)

    def test_a_chain(self):
        calls = [make_class(10), make_class(50), file(0)]
        calls += [file(0, 0, [x]) for x in range(20)] + [file(0, 1, [20])]
        probe = [ask(49, x) for x in range(22)]
        self.assertEqual(last_ones(22, *calls, *probe), [HERE] * 22)
        probe = [ask(50, x) for x in range(22)]
        self.assertEqual(last_ones(22, *calls, *probe), [GONE] * 22)

    def test_a_chain_against_the_numbers(self):
        calls = [make_class(10), make_class(50), file(0, 1)] + [file(0)] * 20
        calls += [need(0, x, x + 1) for x in range(20)]
        self.assertEqual(last_ones(21, *calls, *[ask(49, x) for x in range(21)]), [HERE] * 21)
        self.assertEqual(last_ones(21, *calls, *[ask(50, x) for x in range(21)]), [GONE] * 21)

    def test_a_chain_is_kept_from_its_kept_link_on(self):
        calls = [make_class(10), make_class(50), file(0, 0), file(0, 1, [0]), file(0, 0, [1])]
        self.assertEqual(last_ones(3, *calls, ask(10, 0), ask(10, 1), ask(10, 2)), [HERE, HERE, GONE])

    def test_all_16_that_one_needs(self):
        calls = [make_class(10), make_class(50)] + [file(0)] * 17 + [file(0, 1, range(1, 17))]
        probe = [ask(20, x) for x in range(18)]
        self.assertEqual(last_ones(18, *calls, *probe), [GONE] + [HERE] * 17)

    def test_a_circle_that_something_kept_needs_stays(self):
        calls = [make_class(10), make_class(50), file(0), file(0, 0, [0]), file(0, 0, [1]), need(0, 0, 2),
                 file(0, 1, [1])]
        self.assertEqual(last_ones(4, *calls, *[ask(49, x) for x in range(4)]), [HERE] * 4)
        self.assertEqual(last_ones(4, *calls, *[ask(50, x) for x in range(4)]), [GONE] * 4)

    def test_a_circle_stays_for_one_of_its_own(self):
        calls = [make_class(10), make_class(50), file(0, 0), file(0, 1, [0]), need(0, 0, 1)]
        self.assertEqual(last_ones(2, *calls, ask(49, 0), ask(49, 1)), [HERE, HERE])
        self.assertEqual(last_ones(2, *calls, ask(50, 0), ask(50, 1)), [GONE, GONE])

    def test_a_circle_that_nothing_kept_needs_goes(self):
        calls = [make_class(10), file(0), file(0, 0, [0]), need(0, 0, 1)]
        self.assertEqual(last_ones(4, *calls, ask(9, 0), ask(9, 1), ask(10, 0), ask(10, 1)), [HERE, HERE, GONE, GONE])

    def test_a_thing_that_needs_itself_goes(self):
        calls = [make_class(10), file(0), need(0, 0, 0)]
        self.assertEqual(last_ones(2, *calls, ask(9, 0), ask(10, 0)), [HERE, GONE])

    def test_a_circle_that_needs_something_kept_goes(self):
        calls = [make_class(10), make_class(50), file(0), file(0, 0, [0]), need(0, 0, 1), file(0, 1), need(0, 0, 2)]
        self.assertEqual(last_ones(3, *calls, *[ask(10, x) for x in range(3)]), [GONE, GONE, HERE])

    def test_what_something_here_needs_is_here(self):
        # So a need of a thing that is here is never refused for what it needs already.
        calls = [make_class(10), make_class(50), file(0), file(0, 1, [0])]
        self.assertEqual(last(*calls, need(49, 1, 0)), 1)

    def test_what_is_gone_keeps_nothing_though_its_class_is_named_then(self):
        calls = [make_class(10), make_class(50), file(0, 1), file(0, 0, [0]), matter(10, [], [0])]
        self.assertEqual(last_ones(3, *calls, ask(10, 1), ask(49, 0), ask(50, 0)), [GONE, HERE, GONE])

    def test_longer_keeps_what_its_things_need(self):
        calls = [make_class(10), make_class(20), file(0, 0), file(0, 1, [0]), longer(1, 50)]
        self.assertEqual(last_ones(2, *calls, ask(49, 0), ask(50, 0)), [HERE, GONE])

    def test_it_goes_behind_a_filing_that_doesn_t_keep_it(self):
        # At 10 the first is kept by the second alone; the third, of a class with keep 0, goes at once.
        calls = [make_class(10), make_class(50), make_class(0), file(0, 0), file(0, 1, [0]), file(10, 2, [0])]
        self.assertEqual(last_ones(3, *calls, *[ask(10, x) for x in range(3)]), [HERE, HERE, GONE])


class ReleasedAndAsked(unittest.TestCase):
    def test_a_release_lets_go_of_chains_in_that_same_call(self):
        calls = [make_class(10), file(0), file(0, 0, [0]), file(0, 0, [1]), matter(0, [2]), release(20, 0)]
        # longer would keep what is still here behind the release.
        self.assertEqual(last_ones(3, *calls, longer(0, 100), *[ask(20, x) for x in range(3)]), [GONE] * 3)

    def test_a_released_thing_that_is_needed_stays(self):
        calls = [make_class(10), make_class(50), file(0), file(0, 1, [0]), matter(0, [0]), release(20, 0)]
        self.assertEqual(last_ones(2, *calls, ask(49, 0), ask(50, 0)), [HERE, GONE])

    def test_a_release_lets_go_of_a_circle(self):
        calls = [make_class(10), file(0), file(0, 0, [0]), need(0, 0, 1), matter(0, [0]), ask(20, 1), release(20, 0)]
        self.assertEqual(last_ones(4, *calls, ask(20, 0), ask(20, 1)), [HERE, 0, GONE, GONE])

    def test_an_asked_thing_goes_in_that_same_call(self):
        calls = [make_class(10, 1), file(0), ask(5, 0), longer(0, 100)]
        self.assertEqual(last_ones(3, *calls, ask(5, 0)), [0, 0, GONE])

    def test_what_it_needed_goes_with_it(self):
        calls = [make_class(10), make_class(50, 1), file(0, 0), file(0, 1, [0]), ask(20, 1), longer(0, 100)]
        self.assertEqual(last_ones(3, *calls, ask(20, 0)), [0, 0, GONE])

    def test_what_it_needed_stays_till_it_is_due(self):
        calls = [make_class(10), make_class(50, 1), file(0, 0), file(0, 1, [0]), ask(5, 1)]
        self.assertEqual(last_ones(3, *calls, ask(5, 1), ask(9, 0), ask(10, 0)), [GONE, HERE, GONE])

    def test_an_asked_thing_that_is_needed_stays_as_long(self):
        calls = [make_class(50, 1), make_class(20), file(0, 0), file(0, 1, [0]), ask(5, 0)]
        self.assertEqual(last_ones(2, *calls, need(19, 0, 0), need(20, 0, 0)), [0, -4])

    def test_an_asked_circle_goes_with_its_last(self):
        calls = [make_class(50, 1), file(0), file(0, 0, [0]), need(0, 0, 1), ask(5, 0), need(5, 0, 0), ask(6, 1)]
        self.assertEqual(last_ones(4, *calls, ask(6, 0), ask(6, 1)), [0, 0, 1, 1])


class NothingElseBringsAThingToGoEarlier(unittest.TestCase):
    def test_other_calls_leave_it(self):
        calls = [make_class(10), file(0), make_class(0, 1), file(1, 1), file(1, 0), need(2, 1, 0), need(2, 0, 0),
                 matter(3, [0], [0, 1]), more(3, 0, [2], [1]), longer(1, 5), ask(4, 0), release(5, 0)]
        self.assertEqual(last_ones(2, *calls, ask(9, 0), ask(10, 0)), [HERE, GONE])

    def test_asking_for_another_leaves_it(self):
        calls = [make_class(10, 1), file(0), file(0), ask(5, 0)]
        self.assertEqual(last_ones(2, *calls, need(9, 1, 1), need(10, 1, 1)), [0, -4])


if __name__ == "__main__":
    unittest.main()
