"""The five promises over made-up lines, seen from outside alone: what the calls tell behind each call of a line."""

import unittest

from helper import MOMENT_END, NEXT, TOLD, given, thing, went, when
from test_against_model import Line

NEVER = float("inf")
ASK, RELEASE, MATTER, MORE = 7, 6, 4, 5


def names_in(call, at):
    """What a call names in its rows of things and of classes, which begin at a place."""
    things, classes = call[at + 1:at + 1 + call[at]], call[at + 2 + call[at]:]
    return [("thing", x) for x in things] + [("class", which) for which in classes]


def names_that_stand(answered):
    """What the matters that stand name, by the calls and what they answered."""
    names = {}
    for call, answer in answered:
        if call[0] == MATTER and answer[0] >= 0:
            names[answer[0]] = names_in(call, 2)
        elif call[0] == MORE and answer[0] >= 0:
            names[call[2]] += names_in(call, 3)
        elif call[0] == RELEASE and answer[0] >= 0:
            names.pop(call[2])
    return {name for row in names.values() for name in row}


class State:
    """What is told behind some calls."""

    def __init__(self, calls, answers):
        self.moment, classes, many, self.many_here, standing, gone = given(*calls, TOLD)[-1][1:]
        told = given(*calls, *[thing(x) for x in range(many)], *[when(x) for x in range(many)],
                     *[went(i) for i in range(gone)], NEXT)[len(calls):]
        self.things = dict(enumerate(told[:many]))
        self.here = {x for x, answer in self.things.items() if answer[0] == 0}
        self.needs = {x: answer[5:] for x, answer in self.things.items()}
        self.due = {x: answer[3] for x, answer in self.things.items()}
        self.goes = {x: NEVER if answer == [1] else answer[1] for x, answer in enumerate(told[many:2 * many])
                     if answer != [-4]}
        self.went = [tuple(answer[1:]) for answer in told[2 * many:-1]]
        self.first = told[-1]
        names = names_that_stand(zip(calls, answers))
        self.named = {x for x in self.things if ("thing", x) in names}
        self.held = self.named | {x for x in self.here if ("class", self.things[x][1]) in names}
        self.of_named_classes = {x for x, answer in self.things.items() if ("class", answer[1]) in names}


class Promises(unittest.TestCase):
    def each_step(self):
        """Each call of some lines, its answer, and what is told before it and behind it."""
        kinds = [{}] * 60 + [{"keeps": range(10, 40)}] * 60
        kinds += [{"start": MOMENT_END - 60, "keeps": [2, 9, 25, 2 ** 39 - 1]}] * 20
        for seed, kind in enumerate(kinds):
            line = Line(seed, **kind)
            line.begin()
            for k in range(40):
                line.step()
            answers = given(*line.calls)
            states = [State(line.calls[:k], answers[:k]) for k in range(len(line.calls) + 1)]
            for k in range(len(line.calls)):
                yield line.calls[k], answers[k], states[k], states[k + 1]

    @classmethod
    def setUpClass(cls):
        cls.steps = list(cls.each_step(cls))

    def test_the_lines_are_worth_it(self):
        self.assertGreater(len([1 for call, answer, old, new in self.steps if len(new.went) > len(old.went) + 1]), 30)
        self.assertGreater(len([1 for call, answer, old, new in self.steps if new.held]), 200)
        self.assertGreater(len([1 for call, answer, old, new in self.steps
                                if any(new.goes[x] > new.due[x] for x in new.here - new.held)]), 200)

    def test_1_a_thing_is_here_just_if_it_is_kept(self):
        for call, answer, old, new in self.steps:
            kept = {x for x in new.here if new.moment < new.due[x]} | new.held
            for x in range(len(new.things)):
                kept |= {y for x in kept for y in new.needs[x]}
            self.assertEqual(new.here, kept, call)

    def test_2_it_goes_at_the_first_moment_told_and_stays_gone(self):
        for call, answer, old, new in self.steps:
            self.assertEqual(new.went[:len(old.went)], old.went)
            self.assertEqual({moment for x, moment in new.went[len(old.went):]} - {new.moment}, set())
            self.assertEqual([x for x in old.here & new.here if old.goes[x] <= new.moment
                              and call[0] > 1 and answer[0] not in (-1, -5)], [], call)

    def test_3_nothing_but_an_asking_or_a_release_brings_it_to_go_earlier(self):
        for call, answer, old, new in self.steps:
            for x in old.here:
                earlier = (new.goes[x] if x in new.here else new.moment) < old.goes[x]
                self.assertFalse(earlier and (call[0] not in (ASK, RELEASE) or answer != [0]), call)
            self.assertLessEqual(new.named | (old.held & new.of_named_classes), new.here, call)

    def test_4_when_and_next_tell_truly(self):
        for call, answer, old, new in self.steps:
            for x in new.here:
                self.assertGreater(new.goes[x], new.moment)
            going = sorted((moment, x) for x, moment in new.goes.items() if moment != NEVER)
            self.assertEqual(new.first, [0, going[0][1], going[0][0]] if going else [1])
            if call[0] == 8 and answer[0] >= 0:
                gone = [x for x in sorted(old.here) if old.goes[x] <= call[1]]
                self.assertEqual(answer, [len(gone), *gone])

    def test_5_what_something_here_needs_is_here_and_what_went_is_told_once(self):
        for call, answer, old, new in self.steps:
            self.assertLessEqual({y for x in new.here for y in new.needs[x]}, new.here)
            self.assertEqual(sorted(new.went), [(x, told[4]) for x, told in new.things.items() if x not in new.here])
            self.assertEqual([moment for x, moment in new.went], sorted(moment for x, moment in new.went))
            self.assertEqual((new.many_here, len(new.went)), (len(new.here), len(new.things) - len(new.here)))


if __name__ == "__main__":
    unittest.main()
