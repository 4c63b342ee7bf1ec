import unittest

from helper import GONE, HERE, HIGHEST, answered, ask, file, last, last_ones, make_class, matter, more, need, release


class Making(unittest.TestCase):
    def setUp(self):
        self.two = [make_class(5), make_class(50), file(0, 0), file(0, 0)]

    def test_matters_are_numbered_from_0(self):
        calls = [*self.two, matter(0, [0]), matter(0, [], [1]), matter(0, [0, 1], [0, 1])]
        self.assertEqual(last_ones(3, *calls), [0, 1, 2])

    def test_a_matter_may_name_nothing(self):
        self.assertEqual(answered(matter(0)), [0])

    def test_it_holds_what_it_names(self):
        self.assertEqual(last_ones(2, *self.two, matter(0, [1]), ask(5, 0), ask(5, 1)), [GONE, HERE])

    def test_things_must_be_here(self):
        self.assertEqual(last(*self.two, matter(0, [0, 1])), 0)
        self.assertEqual(last(*self.two, matter(0, [0, 2])), -4)
        self.assertEqual(last(*self.two, matter(0, [HIGHEST])), -4)
        self.assertEqual(last(*self.two, matter(4, [0])), 0)
        self.assertEqual(last(*self.two, matter(5, [0])), -4)

    def test_classes_must_be_there(self):
        self.assertEqual(last(*self.two, matter(0, [], [0, 1])), 0)
        self.assertEqual(last(*self.two, matter(0, [], [0, 2])), -4)
        self.assertEqual(last(*self.two, matter(0, [], [HIGHEST])), -4)

    def test_lists_must_rise(self):
        self.assertEqual(last(*self.two, matter(0, [0, 0])), -1)
        self.assertEqual(last(*self.two, matter(0, [1, 0])), -1)
        self.assertEqual(last(*self.two, matter(0, [], [1, 1])), -1)
        self.assertEqual(last(*self.two, matter(0, [], [1, 0])), -1)
        self.assertEqual(last(*self.two, matter(0, [1], [0])), 0)

    def test_at_most_256_numbers_in_a_list(self):
        full = [make_class(5)] + [file(0)] * 256
        self.assertEqual(last(*full, matter(0, range(256))), 0)
        self.assertEqual(last(*full, matter(0, range(257))), -2)
        self.assertEqual(last(*full, matter(0, range(300))), -2)
        self.assertEqual(last(*full, matter(0, [], range(256))), -4)
        self.assertEqual(last(*full, matter(0, [], range(257))), -2)
        self.assertEqual(last(*full, matter(0, [], range(300))), -2)

    def test_there_are_at_most_32(self):
        self.assertEqual(answered(*[matter(0)] * 34), [*range(32), -3, -3])

    def test_released_ones_count_too(self):
        self.assertEqual(last(*[matter(0)] * 32, release(0, 0), matter(0)), -3)

    def test_a_refused_matter_takes_no_number_and_holds_nothing(self):
        refused = [matter(0, [0, 2]), matter(0, [0], [2]), matter(0, [0], [1, 1]), matter(0, [0], range(257))]
        self.assertEqual(last_ones(6, *self.two, *refused, matter(0), ask(5, 0)), [-4, -4, -1, -2, 0, GONE])

    def test_a_matter_too_many_holds_nothing(self):
        self.assertEqual(last_ones(2, *self.two, *[matter(0)] * 32, matter(0, [0], [0]), ask(5, 0)), [-3, GONE])


class MakingInOrder(unittest.TestCase):
    def setUp(self):
        self.full = [make_class(5), file(0)] + [matter(0)] * 32

    def test_too_many_in_either_list_comes_first(self):
        self.assertEqual(last(*self.full, matter(0, [5, 5], range(257))), -2)
        self.assertEqual(last(*self.full, matter(0, [7] * 257)), -2)
        self.assertEqual(last(*self.full, matter(0, [9], range(257))), -2)
        self.assertEqual(last(*self.full, matter(0, range(257), [1, 1])), -2)

    def test_then_not_rising_in_either_list(self):
        self.assertEqual(last(*self.full, matter(0, [9], [1, 1])), -1)
        self.assertEqual(last(*self.full, matter(0, [9, 9], [4])), -1)
        self.assertEqual(last(*self.full, matter(0, [0, 0])), -1)

    def test_then_what_is_missing(self):
        self.assertEqual(last(*self.full, matter(0, [9])), -4)
        self.assertEqual(last(*self.full, matter(0, [], [1])), -4)

    def test_then_32_matters(self):
        self.assertEqual(last(*self.full, matter(0, [0], [0])), -3)


class More(unittest.TestCase):
    def setUp(self):
        self.two = [make_class(5), make_class(5), file(0, 0), file(0, 1), matter(0)]

    def test_it_names_these_too(self):
        calls = [*self.two, more(0, 0, [0]), more(0, 0, [], [1])]
        self.assertEqual(last_ones(4, *calls, ask(5, 0), ask(5, 1)), [0, 0, HERE, HERE])

    def test_it_still_names_the_others(self):
        calls = [*self.two, matter(0, [0]), more(0, 1, [1])]
        self.assertEqual(last_ones(3, *calls, ask(5, 0), ask(5, 1)), [0, HERE, HERE])

    def test_only_that_matter_names_them(self):
        calls = [*self.two, matter(0), more(0, 1, [0]), release(0, 0)]
        self.assertEqual(last(*calls, ask(5, 0)), HERE)
        self.assertEqual(last(*calls, release(0, 1), ask(5, 0)), GONE)

    def test_naming_again_and_naming_nothing(self):
        calls = [*self.two, more(0, 0, [0], [0]), more(0, 0, [0, 1], [0, 1]), more(0, 0)]
        self.assertEqual(last_ones(3, *calls), [0, 0, 0])

    def test_there_must_be_such_a_matter(self):
        self.assertEqual(last(*self.two, more(0, 1)), -4)
        self.assertEqual(last(*self.two, more(0, HIGHEST)), -4)

    def test_it_must_stand(self):
        self.assertEqual(last_ones(2, *self.two, release(0, 0), more(0, 0)), [0, -3])

    def test_a_released_matter_holds_nothing_more(self):
        self.assertEqual(last(*self.two, release(0, 0), more(0, 0, [0], [0]), ask(5, 0)), GONE)

    def test_things_and_classes_must_be_there(self):
        self.assertEqual(last(*self.two, more(0, 0, [0, 2])), -4)
        self.assertEqual(last(*self.two, more(0, 0, [], [2])), -4)
        self.assertEqual(last(*self.two, more(0, 0, [HIGHEST])), -4)
        self.assertEqual(last(*self.two, more(0, 0, [], [HIGHEST])), -4)
        self.assertEqual(last(*self.two, more(4, 0, [0])), 0)
        self.assertEqual(last(*self.two, more(5, 0, [0])), -4)

    def test_lists_must_rise(self):
        self.assertEqual(last(*self.two, more(0, 0, [0, 0])), -1)
        self.assertEqual(last(*self.two, more(0, 0, [1, 0])), -1)
        self.assertEqual(last(*self.two, more(0, 0, [], [1, 1])), -1)

    def test_at_most_256_numbers_in_a_list(self):
        full = [make_class(5)] + [file(0)] * 256 + [matter(0)]
        self.assertEqual(last(*full, more(0, 0, range(256))), 0)
        self.assertEqual(last(*full, more(0, 0, range(257))), -2)
        self.assertEqual(last(*full, more(0, 0, range(300))), -2)
        self.assertEqual(last(*full, more(0, 0, [], range(256))), -4)
        self.assertEqual(last(*full, more(0, 0, [], range(257))), -2)
        self.assertEqual(last(*full, more(0, 0, [], range(300))), -2)

    def test_a_refused_more_holds_nothing(self):
        refused = [more(0, 0, [0, 2]), more(0, 0, [0], [2]), more(0, 0, [0], [0, 0]), more(0, 0, [0], range(257)),
                   more(0, 1, [0])]
        self.assertEqual(last_ones(6, *self.two, *refused, ask(5, 0)), [-4, -4, -1, -2, -4, GONE])


class MoreInOrder(unittest.TestCase):
    def setUp(self):
        self.released = [make_class(5), file(0), matter(0), release(0, 0)]

    def test_too_many_comes_first(self):
        for number in (0, 1):
            self.assertEqual(last(*self.released, more(0, number, [5, 5], range(257))), -2)
            self.assertEqual(last(*self.released, more(0, number, range(257), [1, 1])), -2)

    def test_then_not_rising(self):
        for number in (0, 1):
            self.assertEqual(last(*self.released, more(0, number, [9], [1, 1])), -1)
            self.assertEqual(last(*self.released, more(0, number, [9, 9], [4])), -1)

    def test_what_is_missing_comes_ahead_of_a_released_matter(self):
        self.assertEqual(last(*self.released, more(0, 0, [9])), -4)
        self.assertEqual(last(*self.released, more(0, 0, [], [1])), -4)
        self.assertEqual(last(*self.released, more(0, 0, [0], [0])), -3)


class Releasing(unittest.TestCase):
    def test_a_matter_is_released_once(self):
        self.assertEqual(answered(matter(0), release(0, 0), release(0, 0), release(9, 0)), [0, 0, -3, -3])

    def test_there_must_be_such_a_matter(self):
        self.assertEqual(answered(release(0, 0)), [-4])
        self.assertEqual(answered(matter(0), release(0, 1), release(0, HIGHEST)), [0, -4, -4])

    def test_other_matters_stand(self):
        calls = [make_class(5), file(0), matter(0, [0]), matter(0, [], [0]), release(9, 0)]
        self.assertEqual(last_ones(4, *calls, ask(9, 0), release(9, 1), ask(9, 0)), [0, HERE, 0, GONE])

    def test_what_isn_t_due_stays(self):
        calls = [make_class(5), file(0), matter(0, [0]), release(4, 0)]
        self.assertEqual(last_ones(2, *calls, ask(4, 0), ask(5, 0)), [HERE, GONE])

    def test_a_refused_release_lets_nothing_go(self):
        calls = [make_class(5), file(0), matter(0), release(0, 0), matter(0, [0])]
        self.assertEqual(last_ones(2, *calls, release(9, 0), ask(9, 0)), [-3, HERE])
        self.assertEqual(last_ones(2, *calls, release(9, 2), ask(9, 0)), [-4, HERE])


class Asking(unittest.TestCase):
    def test_there_must_be_such_a_thing(self):
        self.assertEqual(answered(ask(0, 0)), [-4])
        self.assertEqual(last(make_class(5, 1), file(0), ask(0, 1)), -4)
        self.assertEqual(last(make_class(5, 1), file(0), ask(0, HIGHEST)), -4)

    def test_the_class_must_let_it(self):
        self.assertEqual(last(make_class(5, 0), file(0), ask(0, 0)), -9)
        self.assertEqual(last(make_class(5, 1), file(0), ask(0, 0)), 0)

    def test_its_own_class_counts(self):
        calls = [make_class(5, 0), make_class(5, 1), file(0, 1), file(0, 0)]
        self.assertEqual(last_ones(2, *calls, ask(0, 0), ask(0, 1)), [0, -9])

    def test_a_refused_asking_lets_nothing_go(self):
        self.assertEqual(last_ones(3, make_class(5, 0), file(0), ask(1, 0), ask(4, 0), ask(5, 0)), [-9, -9, 1])

    def test_a_gone_thing_answers_1_whatever_its_class(self):
        self.assertEqual(last_ones(2, make_class(5, 0), file(0), ask(5, 0), ask(9, 0)), [1, 1])
        self.assertEqual(last_ones(2, make_class(5, 1), file(0), ask(5, 0), ask(9, 0)), [1, 1])

    def test_an_asked_thing_goes_in_that_call(self):
        self.assertEqual(last_ones(2, make_class(5, 1), file(0), ask(2, 0), ask(2, 0)), [0, 1])

    def test_only_the_asked_thing_goes(self):
        calls = [make_class(5, 1), file(0), file(0), ask(2, 0)]
        self.assertEqual(last_ones(2, *calls, need(2, 0, 0), need(2, 1, 1)), [-4, 0])

    def test_a_held_thing_may_be_asked_for_and_stays(self):
        calls = [make_class(5, 1), file(0), matter(0, [0]), ask(2, 0)]
        self.assertEqual(last_ones(2, *calls, need(2, 0, 0)), [0, 0])
        self.assertEqual(last_ones(2, *calls, release(3, 0), ask(3, 0)), [0, 1])

    def test_an_asking_never_makes_a_due_later(self):
        # Asked for again behind its due: the moment of that asking mustn't become its due.
        calls = [make_class(5, 1), file(0), matter(0, [0]), ask(2, 0), ask(9, 0), release(9, 0)]
        self.assertEqual(last(*calls, need(9, 0, 0)), -4)

    def test_of_a_held_thing_whose_class_doesn_t_let_it(self):
        self.assertEqual(last(make_class(5), file(0), matter(0, [0]), ask(9, 0)), -9)


if __name__ == "__main__":
    unittest.main()
