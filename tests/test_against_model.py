"""The program beside a plain reading of the document, at many made-up lines of calls."""

import random
import unittest

from helper import (KEEP_END, MOMENT_END, ask, file, longer, make_class, matter, more, need, release,
                    told)


def rises(row):
    return sorted(set(row)) == list(row)


class Model:
    """The document's words over sets; nothing is shared with the program."""

    def __init__(self):
        self.now = 0
        self.classes = []
        self.filed, self.due, self.of = {}, {}, {}
        self.here, self.needs = set(), set()
        self.names, self.standing = [], set()

    def kept(self):
        held = {x for x in self.here for m in self.standing
                if ("thing", x) in self.names[m] or ("class", self.of[x]) in self.names[m]}
        kept = held | {x for x in self.here if self.now < self.due[x]}
        while True:
            wider = kept | {y for x, y in self.needs if x in kept and y in self.here}
            if wider == kept:
                return kept
            kept = wider

    def make_class(self, keep, early):
        if keep >= KEEP_END or early > 1:
            return -1
        if len(self.classes) == 16:
            return -3
        self.classes.append([keep, early])
        return len(self.classes) - 1

    def longer(self, which, keep):
        if which not in range(len(self.classes)):
            return -4
        was = self.classes[which][0]
        if keep >= KEEP_END or keep < was:
            return -1
        self.due.update({x: self.filed[x] + keep for x in self.here
                         if self.of[x] == which and self.due[x] == self.filed[x] + was})
        self.classes[which][0] = keep
        return 0

    def at(self, moment, act, *rest):
        if moment >= MOMENT_END:
            return -1
        if moment < self.now:
            return -5
        self.now = moment
        self.here &= self.kept()
        answer = act(*rest)
        self.here &= self.kept()
        return answer

    def file(self, which, needs):
        if len(needs) > 16:
            return -2
        if not rises(needs):
            return -1
        if which not in range(len(self.classes)) or not self.here.issuperset(needs):
            return -4
        x = len(self.filed)
        if x == 256:
            return -3
        self.filed[x], self.due[x], self.of[x] = self.now, self.now + self.classes[which][0], which
        self.here.add(x)
        self.needs |= {(x, y) for y in needs}
        return x

    def need(self, x, y):
        if not {x, y} <= self.here:
            return -4
        if (x, y) in self.needs:
            return 1
        if len([1 for a, b in self.needs if a == x]) == 16:
            return -3
        self.needs.add((x, y))
        return 0

    def lists(self, things, classes):
        if max(len(things), len(classes)) > 256:
            return -2
        if not (rises(things) and rises(classes)):
            return -1
        if not self.here.issuperset(things) or not set(range(len(self.classes))).issuperset(classes):
            return -4
        return {("thing", x) for x in things} | {("class", c) for c in classes}

    def matter(self, things, classes):
        names = self.lists(things, classes)
        if isinstance(names, int):
            return names
        if len(self.names) == 32:
            return -3
        self.names.append(names)
        self.standing.add(len(self.names) - 1)
        return len(self.names) - 1

    def more(self, m, things, classes):
        names = self.lists(things, classes)
        if isinstance(names, int):
            return names
        if m >= len(self.names):
            return -4
        if m not in self.standing:
            return -3
        self.names[m] |= names
        return 0

    def release(self, m):
        if m >= len(self.names):
            return -4
        if m not in self.standing:
            return -3
        self.standing.remove(m)
        return 0

    def ask(self, x):
        if x not in self.filed:
            return -4
        if x not in self.here:
            return 1
        if self.classes[self.of[x]][1] == 0:
            return -9
        self.due[x] = min(self.due[x], self.now)
        return 0


class Line:
    """Calls that are made up one by one, each with what the model answers."""

    def __init__(self, seed):
        self.chance = random.Random(seed)
        self.model = Model()
        self.calls, self.expected = [], []

    def number(self, many):
        return self.chance.randrange(many + 1) if self.chance.random() < 0.2 else self.chance.randrange(max(many, 1))

    def here(self):
        around = sorted(self.model.here)
        return self.chance.choice(around) if around and self.chance.random() < 0.8 else self.thing()

    def thing(self):
        return self.number(len(self.model.filed))

    def row(self, of, many):
        row = [of() for k in range(self.chance.randrange(many))]
        return row if self.chance.random() < 0.1 else sorted(set(row))

    def moment(self):
        if self.chance.random() < 0.04:
            return self.chance.choice([MOMENT_END, max(self.model.now - 1, 0)])
        return self.model.now + self.chance.choice([0, 0, 0, 1, 1, 2, 5])

    def which(self):
        return self.number(len(self.model.classes))

    def lists(self):
        return self.row(self.here, 4), self.row(self.which, 2)

    def add(self, call, answer):
        self.calls.append(call)
        self.expected.append(answer)

    def step(self):
        model, now = self.model, self.moment()
        kind = self.chance.choices(range(8), [1, 2, 9, 6, 2, 2, 3, 4])[0]
        if kind == 0:
            rest = (self.chance.randrange(30), self.chance.choice([0, 1, 1, 2]))
            self.add(make_class(*rest), model.make_class(*rest))
        elif kind == 1:
            rest = (self.which(), self.chance.randrange(45))
            self.add(longer(*rest), model.longer(*rest))
        elif kind == 2:
            rest = (self.which(), self.row(self.here, 4))
            self.add(file(now, *rest), model.at(now, model.file, *rest))
        elif kind == 3:
            rest = (self.here(), self.here())
            self.add(need(now, *rest), model.at(now, model.need, *rest))
        elif kind == 4:
            rest = self.lists()
            self.add(matter(now, *rest), model.at(now, model.matter, *rest))
        elif kind == 5:
            rest = (self.number(len(model.names)), *self.lists())
            self.add(more(now, *rest), model.at(now, model.more, *rest))
        elif kind == 6:
            rest = (self.number(len(model.names)),)
            self.add(release(now, *rest), model.at(now, model.release, *rest))
        else:
            rest = (self.here(),)
            self.add(ask(now, *rest), model.at(now, model.ask, *rest))

    def look_at_each_thing(self):
        """A matter is -4 for a thing that isn't here, else not, whether there are 32 or fewer."""
        now = self.model.now
        for x in sorted(self.model.filed):
            self.add(matter(now, [x]), self.model.at(now, self.model.matter, [x], []))


class AgainstTheModel(unittest.TestCase):
    def check(self, seed, steps):
        line = Line(seed)
        first = (line.chance.randrange(20), 1)
        line.add(make_class(*first), line.model.make_class(*first))
        for k in range(steps):
            line.step()
        line.look_at_each_thing()
        self.assertEqual(told(*line.calls), line.expected, f"seed {seed}")

    def test_short_lines(self):
        for seed in range(400):
            self.check(seed, 25)

    def test_long_lines(self):
        for seed in range(1000, 1060):
            self.check(seed, 280)


if __name__ == "__main__":
    unittest.main()
