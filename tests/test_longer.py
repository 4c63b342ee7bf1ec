import unittest

from helper import GONE, HERE, KEEP_END, ask, file, last, last_ones, longer, make_class, matter, need, release


class Longer(unittest.TestCase):
    def test_a_thing_that_is_here_is_due_later(self):
        calls = [make_class(10), file(100), longer(0, 30)]
        self.assertEqual(last(*calls, ask(129, 0)), HERE)
        self.assertEqual(last(*calls, ask(130, 0)), GONE)

    def test_it_counts_from_the_filing_not_from_now(self):
        calls = [make_class(10), file(100), ask(109, 0), longer(0, 11)]
        self.assertEqual(last_ones(2, *calls, ask(110, 0), ask(111, 0)), [HERE, GONE])

    def test_what_is_filed_later_is_kept_as_long(self):
        calls = [make_class(10), longer(0, 30), file(100)]
        self.assertEqual(last_ones(2, *calls, ask(129, 0), ask(130, 0)), [HERE, GONE])

    def test_the_same_keep_changes_nothing(self):
        calls = [make_class(10), file(100), longer(0, 10), file(100)]
        self.assertEqual(last_ones(2, *calls, ask(109, 0), ask(109, 1)), [HERE, HERE])
        self.assertEqual(last_ones(2, *calls, ask(110, 0), ask(110, 1)), [GONE, GONE])

    def test_it_may_come_again(self):
        calls = [make_class(10), file(100), longer(0, 20), longer(0, 30)]
        self.assertEqual(last_ones(2, *calls, ask(129, 0), ask(130, 0)), [HERE, GONE])

    def test_other_classes_stay_as_they_are(self):
        calls = [make_class(10), make_class(10), file(100, 0), file(100, 1), longer(1, 30), file(100, 0)]
        self.assertEqual(last_ones(3, *calls, ask(110, 0), ask(110, 1), ask(110, 2)), [GONE, HERE, GONE])

    def test_a_refused_longer_changes_nothing(self):
        for refused in (longer(0, 9), longer(0, KEEP_END), longer(1, 30)):
            calls = [make_class(10), file(100), refused, file(100)]
            self.assertEqual(last_ones(2, *calls, ask(109, 0), ask(109, 1)), [HERE, HERE])
            self.assertEqual(last_ones(2, *calls, ask(110, 0), ask(110, 1)), [GONE, GONE])

    def test_a_gone_thing_stays_gone(self):
        calls = [make_class(10), file(100), ask(110, 0), longer(0, 1000)]
        self.assertEqual(last(*calls, ask(110, 0)), GONE)
        self.assertEqual(last(*calls, matter(110, [0])), -4)

    def test_the_longest_keep(self):
        calls = [make_class(10), file(100), longer(0, KEEP_END - 1)]
        self.assertEqual(last_ones(2, *calls, ask(KEEP_END + 98, 0), ask(KEEP_END + 99, 0)), [HERE, GONE])


class LongerForThingsThatAreDue(unittest.TestCase):
    def test_a_thing_past_its_due_that_something_keeps_is_moved(self):
        # The first is due at 110 and stays, for the second needs it till 150.
        calls = [make_class(10), make_class(50), file(100, 0), file(100, 1, [0]), ask(120, 0), longer(0, 100)]
        self.assertEqual(last_ones(2, *calls, ask(199, 0), ask(200, 0)), [HERE, GONE])
        self.assertEqual(last(*calls, ask(150, 1)), GONE)

    def test_a_held_thing_past_its_due_is_moved(self):
        calls = [make_class(10), file(100), matter(100, [0]), ask(120, 0), longer(0, 100), release(130, 0)]
        self.assertEqual(last_ones(2, *calls, ask(199, 0), ask(200, 0)), [HERE, GONE])


class LongerForThingsThatWereAskedFor(unittest.TestCase):
    def test_an_asked_thing_is_left(self):
        calls = [make_class(10, 1), file(100), matter(100, [0]), ask(105, 0), longer(0, 100)]
        self.assertEqual(last(*calls, release(106, 0), ask(106, 0)), GONE)

    def test_an_asked_thing_is_left_each_time(self):
        calls = [make_class(10, 1), file(100), matter(100, [0]), ask(105, 0), longer(0, 50), longer(0, 100)]
        self.assertEqual(last(*calls, release(106, 0), ask(106, 0)), GONE)

    def test_asked_for_at_its_own_filing(self):
        calls = [make_class(10, 1), matter(0, [], [0]), file(100), ask(100, 0), longer(0, 100)]
        self.assertEqual(last(*calls, release(100, 0), need(100, 0, 0)), -4)

    def test_the_others_of_its_class_are_moved(self):
        calls = [make_class(10, 1), file(100), file(100), matter(100, [0, 1]), ask(105, 1), longer(0, 100)]
        self.assertEqual(last_ones(2, *calls, release(150, 0), need(150, 0, 0), need(150, 1, 1)), [0, -4])

    def test_an_asking_that_moved_no_due_doesn_t_count(self):
        # Due at 110 already as it was asked for, so it's still due at filed and keep.
        calls = [make_class(10, 1), file(100), matter(100, [0]), ask(115, 0), longer(0, 100), release(120, 0)]
        self.assertEqual(last_ones(2, *calls, need(199, 0, 0), need(200, 0, 0)), [0, -4])

    def test_an_asking_at_the_very_due_moved_none_either(self):
        calls = [make_class(10, 1), file(100), matter(100, [0]), ask(110, 0), longer(0, 100), release(120, 0)]
        self.assertEqual(last_ones(2, *calls, need(199, 0, 0), need(200, 0, 0)), [0, -4])


if __name__ == "__main__":
    unittest.main()
