import itertools
import random
import unittest

from helper import (HIGHEST, KEEP_END, MOMENT_END, NEXT, ask, file, given, given_last, longer, make_class, matter,
                    more, need, release, tick, when)
from keptuntil.office import answers

LATEST = MOMENT_END + KEEP_END - 2


def whens(many, *calls):
    """What when tells of the things from 0 on: the moment, None if it wouldn't go, -4."""
    told = given(*calls, *[when(x) for x in range(many)])[len(calls):]
    for answer in told:
        if answer not in ([1], [-4]) and (answer[0] != 0 or len(answer) != 2):
            raise AssertionError(f"not what when may answer: {answer}")
    return [{1: None, -4: -4}.get(answer[0], answer[-1]) for answer in told]


class Ticked(unittest.TestCase):
    """when and next held against ticks: at each moment and the one before it goes just what when told."""

    def check(self, *calls, many, now=0):
        expected = {x: moment for x, moment in enumerate(whens(many, *calls)) if moment is not None and moment >= 0}
        going = sorted(zip(expected.values(), expected))
        self.assertEqual(given_last(*calls, NEXT), [0, going[0][1], going[0][0]] if going else [1])
        moments = sorted({moment - step for moment in expected.values() for step in (0, 1)} | {now, MOMENT_END - 1})
        for part in (moments[k:k + 100] for k in range(0, len(moments), 100)):
            ticks = [tick(moment) for moment in part if now <= moment < MOMENT_END]
            told = given(*calls, *ticks)[len(calls):]
            last_one = -1
            for call, answer in zip(ticks, told):
                gone = [x for x, moment in expected.items() if last_one < moment <= call[1]]
                self.assertEqual(answer, [len(gone), *gone], f"{calls}, {call}")
                last_one = call[1]

    def test_alone(self):
        self.check(make_class(10), file(100), many=1, now=100)

    def test_needs_in_each_shape_of_three(self):
        pairs = list(itertools.product(range(3), repeat=2))
        for chosen in itertools.product((False, True), repeat=9):
            needs = [need(0, *pair) for pair, is_in in zip(pairs, chosen) if is_in]
            self.check(make_class(10), make_class(20), make_class(30), file(0, 1), file(0, 2), file(0, 0), *needs,
                       many=3)

    def test_needs_in_each_shape_of_three_with_one_held(self):
        pairs = list(itertools.permutations(range(3), 2))
        for chosen in itertools.product((False, True), repeat=6):
            for x in range(3):
                needs = [need(0, *pair) for pair, is_in in zip(pairs, chosen) if is_in]
                self.check(make_class(10), make_class(20), make_class(30), file(0, 1), file(0, 2), file(0, 0),
                           *needs, matter(0, [x]), many=3)

    def test_made_up_ones(self):
        for seed in range(150):
            chance = random.Random(seed)
            many = chance.randrange(1, 30)
            calls = [make_class(chance.choice([3, 9, 20, 41, KEEP_END - 1])) for k in range(8)]
            calls += [file(k, chance.randrange(8)) for k in range(3)]
            calls += [file(3, chance.randrange(8)) for k in range(many)]
            calls += [need(3, chance.randrange(many), chance.randrange(many)) for k in range(chance.randrange(50))]
            calls += [matter(3, [chance.randrange(3, 3 + many)])] * chance.randrange(2)
            calls = [call for call, answer in zip(calls, given(*calls)) if answer[0] >= 0]
            self.check(*calls, many=3 + many, now=3)

    def test_past_the_highest_moment(self):
        calls = [make_class(20), make_class(40), make_class(KEEP_END - 1), tick(MOMENT_END - 30)]
        calls += [file(MOMENT_END - 30, k % 3) for k in range(6)] + [need(MOMENT_END - 30, 2, 0)]
        self.check(*calls, many=6, now=MOMENT_END - 30)


class WhenOfOneByItself(unittest.TestCase):
    def test_its_form(self):
        self.assertEqual(answers([0, 10, 0, 2, 100, 0, 0, 10, 0])[-5:], [4, 0, 0, 1, 110])

    def test_not_due_yet(self):
        calls = [make_class(10), file(100)]
        self.assertEqual(given(*calls, when(0), tick(109), when(0), tick(110), when(0))[2:],
                         [[0, 110], [0], [0, 110], [1, 0], [-4]])

    def test_a_moment_of_2_to_40_or_more(self):
        calls = [make_class(10), file(MOMENT_END - 11), file(MOMENT_END - 10), file(MOMENT_END - 9)]
        self.assertEqual(whens(3, *calls), [MOMENT_END - 1, MOMENT_END, MOMENT_END + 1])

    def test_the_latest_moment(self):
        self.assertEqual(whens(1, make_class(KEEP_END - 1), file(MOMENT_END - 1)), [LATEST])

    def test_behind_longer(self):
        self.assertEqual(whens(1, make_class(10), file(100), longer(0, 30)), [130])

    def test_behind_ask(self):
        calls = [make_class(50, 1), make_class(10), file(0, 0), file(0, 1, [0]), ask(5, 0)]
        self.assertEqual(whens(2, *calls), [10, 10])


class WhenOfOneThatIsHeld(unittest.TestCase):
    def test_its_form(self):
        self.assertEqual(answers([0, 10, 0, 2, 0, 0, 0, 4, 0, 1, 0, 0, 10, 0])[-4:], [3, 1, 0, 0])

    def test_by_its_number_and_by_its_class(self):
        calls = [make_class(10), make_class(10), file(0, 0), file(0, 1), file(0, 0)]
        self.assertEqual(whens(3, *calls, matter(0, [0])), [None, 10, 10])
        self.assertEqual(whens(3, *calls, matter(0, [], [0])), [None, 10, None])
        self.assertEqual(whens(3, *calls, matter(0), more(0, 0, [2], [1])), [10, None, None])

    def test_filed_behind_the_matter(self):
        self.assertEqual(whens(1, make_class(0), matter(0, [], [0]), file(7)), [None])

    def test_due_already(self):
        calls = [make_class(10), file(0), matter(0, [0]), tick(50)]
        self.assertEqual(whens(1, *calls), [None])

    def test_released(self):
        calls = [make_class(10), file(0), matter(0, [0]), matter(0, [0]), release(5, 0)]
        self.assertEqual(whens(1, *calls), [None])
        self.assertEqual(whens(1, *calls, release(5, 1)), [10])

    def test_only_through_what_needs_it(self):
        calls = [make_class(10), file(0), file(0, 0, [0]), file(0, 0, [1])]
        self.assertEqual(whens(3, *calls, matter(0, [2])), [None, None, None])
        self.assertEqual(whens(3, *calls, matter(0, [1])), [None, None, 10])
        self.assertEqual(whens(3, *calls, matter(0, [1]), tick(10)), [None, None, -4])

    def test_a_later_due_doesn_t_come_ahead_of_being_held(self):
        calls = [make_class(10), make_class(50), file(0), file(0, 1, [0]), file(0, 0, [0]), matter(0, [2])]
        self.assertEqual(whens(3, *calls), [None, 50, None])

    def test_through_a_circle(self):
        calls = [make_class(10), file(0), file(0, 0, [0]), file(0, 0, [1]), need(0, 0, 2), file(0, 0, [2]), file(0)]
        self.assertEqual(whens(5, *calls, matter(0, [3])), [None, None, None, None, 10])


class WhenOfOneThatIsNeeded(unittest.TestCase):
    START = [make_class(10), make_class(20), make_class(30)]

    def test_by_something_due_later(self):
        self.assertEqual(whens(2, *self.START, file(0, 0), file(0, 2, [0])), [30, 30])

    def test_by_something_due_earlier(self):
        self.assertEqual(whens(2, *self.START, file(0, 2), file(0, 0, [0])), [30, 10])

    def test_by_several(self):
        calls = [*self.START, file(0, 0), file(0, 1, [0]), file(0, 2, [0]), file(0, 1, [0])]
        self.assertEqual(whens(4, *calls), [30, 20, 30, 20])

    def test_a_chain_in_whichever_order_it_came(self):
        # 30 needs 10 needs 20: the thing of each class stands at each place, and the needs come both ways.
        for order in itertools.permutations(range(3)):
            place = {which: x for x, which in enumerate(order)}
            needs = [need(0, place[2], place[0]), need(0, place[0], place[1])]
            for chain in (needs, needs[::-1]):
                self.assertEqual(whens(3, *self.START, *[file(0, which) for which in order], *chain), [30] * 3)

    def test_a_chain_from_the_middle_on(self):
        for order in itertools.permutations(range(3)):
            place = {which: x for x, which in enumerate(order)}
            needs = [need(0, place[0], place[2]), need(0, place[2], place[1])]
            for chain in (needs, needs[::-1]):
                told = whens(3, *self.START, *[file(0, which) for which in order], *chain)
                self.assertEqual([told[place[which]] for which in range(3)], [10, 30, 30])

    def test_a_circle(self):
        for order in itertools.permutations(range(3)):
            files = [file(0, which) for which in order]
            for circle in itertools.permutations([need(0, 0, 1), need(0, 1, 2), need(0, 2, 0)]):
                self.assertEqual(whens(3, *self.START, *files, *circle), [30] * 3)

    def test_itself_alone(self):
        self.assertEqual(whens(1, *self.START, file(0), need(0, 0, 0)), [10])

    def test_due_already_and_kept_by_another_alone(self):
        calls = [*self.START, file(0, 0), file(0, 2, [0]), tick(10)]
        self.assertEqual(whens(2, *calls), [30, 30])
        self.assertEqual(whens(2, *calls, tick(29)), [30, 30])
        self.assertEqual(whens(2, *calls, tick(30)), [-4, -4])

    def test_through_one_that_is_due_already(self):
        calls = [*self.START, file(0, 0), file(0, 0, [0]), file(0, 2, [1]), tick(15)]
        self.assertEqual(whens(3, *calls), [30, 30, 30])

    def test_by_one_that_is_gone(self):
        calls = [*self.START, file(0, 2), file(0, 0, [0]), tick(10)]
        self.assertEqual(whens(2, *calls), [30, -4])

    def test_one_that_is_gone_though_its_class_is_held_then(self):
        calls = [*self.START, file(0, 2), file(0, 0, [0]), tick(10), matter(10, [], [0])]
        self.assertEqual(whens(2, *calls), [30, -4])

    def test_past_the_highest_moment(self):
        calls = [make_class(10), make_class(KEEP_END - 1), file(MOMENT_END - 1), file(MOMENT_END - 1, 1, [0])]
        self.assertEqual(whens(2, *calls), [LATEST, LATEST])


class WhenOfOneThatIsNotHere(unittest.TestCase):
    def test_gone(self):
        self.assertEqual(given_last(make_class(10), file(0), tick(10), when(0)), [-4])
        self.assertEqual(given_last(make_class(0), file(0), when(0)), [-4])

    def test_not_there(self):
        self.assertEqual(answers([10, 0]), [3, -4, 0, 0])
        for x in (1, 256, HIGHEST):
            self.assertEqual(given_last(make_class(10), file(0), when(x)), [-4])


class Next(unittest.TestCase):
    def test_its_form(self):
        self.assertEqual(answers([0, 10, 0, 2, 100, 0, 0, 11])[-6:], [5, 0, 0, 2, 0, 110])
        self.assertEqual(answers([11]), [3, 1, 0, 0])

    def test_nothing_is_here(self):
        self.assertEqual(given_last(make_class(10), NEXT), [1])
        self.assertEqual(given_last(make_class(10), file(0), tick(10), NEXT), [1])

    def test_all_are_held(self):
        calls = [make_class(10), file(0), file(0), matter(0, [], [0])]
        self.assertEqual(given_last(*calls, NEXT), [1])
        self.assertEqual(given_last(*calls, tick(10), NEXT), [1])

    def test_all_are_held_through_one(self):
        calls = [make_class(10), file(0), file(0, 0, [0]), matter(0, [1])]
        self.assertEqual(given_last(*calls, NEXT), [1])

    def test_the_least_moment(self):
        calls = [make_class(30), make_class(10), make_class(20), file(0, 0), file(0, 1), file(0, 2)]
        told = given(*calls, NEXT, tick(10), NEXT, tick(20), NEXT, tick(30), NEXT)
        self.assertEqual(told[6::2], [[0, 1, 10], [0, 2, 20], [0, 0, 30], [1]])

    def test_of_as_early_the_least_number(self):
        calls = [make_class(30), make_class(20), make_class(10), file(0, 0), file(0, 1), file(10, 2), file(10, 2)]
        self.assertEqual(given_last(*calls, NEXT), [0, 1, 20])

    def test_the_least_number_whichever_way_they_need_one_another(self):
        calls = [make_class(10), make_class(20), file(0, 1), file(0, 0), file(0, 0), file(0, 0)]
        for needs in itertools.permutations([(1, 2), (2, 3), (3, 1)]):
            self.assertEqual(given_last(*calls, *[need(0, *pair) for pair in needs], NEXT), [0, 1, 10])
        self.assertEqual(given_last(*calls, need(0, 0, 1), NEXT), [0, 2, 10])

    def test_not_by_its_due_but_by_its_going(self):
        # The first is due at 10 and stays till 30; the third goes at 20.
        calls = [make_class(10), make_class(30), make_class(20), file(0, 0), file(0, 1, [0]), file(0, 2)]
        self.assertEqual(given_last(*calls, NEXT), [0, 2, 20])
        self.assertEqual(given_last(*calls, tick(20), NEXT), [0, 0, 30])

    def test_past_what_is_held(self):
        calls = [make_class(10), make_class(30), file(0, 0), file(0, 1), matter(0, [0])]
        self.assertEqual(given_last(*calls, NEXT), [0, 1, 30])

    def test_a_moment_of_2_to_40_or_more(self):
        calls = [make_class(KEEP_END - 1), make_class(1), file(MOMENT_END - 1, 0)]
        self.assertEqual(given_last(*calls, NEXT), [0, 0, LATEST])
        self.assertEqual(given_last(*calls, file(MOMENT_END - 1, 1), NEXT), [0, 1, MOMENT_END])

    def test_it_changes_nothing(self):
        calls = [make_class(10), file(0), NEXT, NEXT, when(0), tick(9), tick(10)]
        self.assertEqual(given(*calls)[2:], [[0, 0, 10], [0, 0, 10], [0, 10], [0], [1, 0]])


class AsManyAsMayBe(unittest.TestCase):
    START = [make_class(10), make_class(50), make_class(90)]

    def told(self, *calls):
        return [answer for part in range(0, 256, 128) for answer in
                given(*calls, *[when(x) for x in range(part, part + 128)])[len(calls):]]

    def test_a_chain_of_256_from_its_last(self):
        calls = [*self.START, file(0)] + [file(0, 0, [x]) for x in range(254)] + [file(0, 2, [254])]
        self.assertEqual(self.told(*calls), [[0, 90]] * 256)
        self.assertEqual(given_last(*calls, NEXT), [0, 0, 90])
        self.assertEqual(given_last(*calls, tick(89), NEXT), [0, 0, 90])

    def test_a_chain_of_256_from_its_middle(self):
        calls = [*self.START, file(0)] + [file(0, 2 if x == 99 else 0, [x]) for x in range(255)]
        self.assertEqual(self.told(*calls), [[0, 90]] * 101 + [[0, 10]] * 155)
        self.assertEqual(given_last(*calls, NEXT), [0, 101, 10])
        self.assertEqual(given_last(*calls, tick(10)), [155, *range(101, 256)])

    def test_a_circle_of_256(self):
        calls = [*self.START, file(0)] + [file(0, 1 if x == 99 else 0, [x]) for x in range(255)] + [need(0, 0, 255)]
        self.assertEqual(self.told(*calls), [[0, 50]] * 256)
        self.assertEqual(self.told(*calls, matter(0, [7])), [[1]] * 256)
        self.assertEqual(given_last(*calls, NEXT), [0, 0, 50])
        self.assertEqual(given_last(*calls, matter(0, [7]), NEXT), [1])
        self.assertEqual(given_last(*calls, tick(50)), [256, *range(256)])

    def test_circles_one_behind_another(self):
        # Each circle of eight needs the circle before it; each is due one second later than that one.
        calls = [make_class(400)]
        for k in range(16):
            calls += [file(k, 0, [8 * k - 1] if k > 0 else [])] + [file(k, 0, [8 * k + x]) for x in range(7)]
            calls += [need(k, 8 * k, 8 * k + 7)]
        told = given(*calls, *[when(x) for x in range(128)])[len(calls):]
        self.assertEqual(told, [[0, 415]] * 128)


if __name__ == "__main__":
    unittest.main()
