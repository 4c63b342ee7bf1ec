"""The program beside a plain reading of the document, at many made-up lines of calls."""

import random
import unittest

from helper import (HIGHEST, KEEP_END, MOMENT_END, NEXT, TOLD, ask, file, given, longer, make_class, matter, more,
                    need, release, thing, tick, went, when, why)


def rises(row):
    return sorted(set(row)) == list(row)


class Model:
    """The document's words over sets; nothing is shared with the program."""

    def __init__(self):
        self.now = 0
        self.classes = []
        self.filed, self.due, self.of = {}, {}, {}
        self.here, self.needs = set(), set()
        self.names, self.standing = [], set()
        self.gone = []

    def held(self):
        return {x for x in self.here for m in self.standing
                if ("thing", x) in self.names[m] or ("class", self.of[x]) in self.names[m]}

    def kept(self, here, now):
        kept = (self.held() & here) | {x for x in here if now < self.due[x]}
        while True:
            wider = kept | {y for x, y in self.needs if x in kept and y in here}
            if wider == kept:
                return kept
            kept = wider

    def let_go(self):
        kept = self.kept(self.here, self.now)
        self.gone += [(x, self.now) for x in sorted(self.here - kept)]
        self.here = kept

    def make_class(self, keep, early):
        if keep >= KEEP_END or early > 1:
            return -1
        if len(self.classes) == 16:
            return -3
        self.classes.append([keep, early])
        return len(self.classes) - 1

    def longer(self, which, keep):
        if which not in range(len(self.classes)):
            return -4
        was = self.classes[which][0]
        if keep >= KEEP_END or keep < was:
            return -1
        self.due.update({x: self.filed[x] + keep for x in self.here
                         if self.of[x] == which and self.due[x] == self.filed[x] + was})
        self.classes[which][0] = keep
        return 0

    def at(self, moment, act, *rest):
        if moment >= MOMENT_END:
            return -1
        if moment < self.now:
            return -5
        self.now = moment
        self.let_go()
        answer = act(*rest)
        self.let_go()
        return answer

    def file(self, which, needs):
        if len(needs) > 16:
            return -2
        if not rises(needs):
            return -1
        if which not in range(len(self.classes)) or not self.here.issuperset(needs):
            return -4
        x = len(self.filed)
        if x == 256:
            return -3
        self.filed[x], self.due[x], self.of[x] = self.now, self.now + self.classes[which][0], which
        self.here.add(x)
        self.needs |= {(x, y) for y in needs}
        return x

    def need(self, x, y):
        if not {x, y} <= self.here:
            return -4
        if (x, y) in self.needs:
            return 1
        if len([1 for a, b in self.needs if a == x]) == 16:
            return -3
        self.needs.add((x, y))
        return 0

    def lists(self, things, classes):
        if max(len(things), len(classes)) > 256:
            return -2
        if not (rises(things) and rises(classes)):
            return -1
        if not self.here.issuperset(things) or not set(range(len(self.classes))).issuperset(classes):
            return -4
        return {("thing", x) for x in things} | {("class", c) for c in classes}

    def matter(self, things, classes):
        names = self.lists(things, classes)
        if isinstance(names, int):
            return names
        if len(self.names) == 32:
            return -3
        self.names.append(names)
        self.standing.add(len(self.names) - 1)
        return len(self.names) - 1

    def more(self, m, things, classes):
        names = self.lists(things, classes)
        if isinstance(names, int):
            return names
        if m >= len(self.names):
            return -4
        if m not in self.standing:
            return -3
        self.names[m] |= names
        return 0

    def release(self, m):
        if m >= len(self.names):
            return -4
        if m not in self.standing:
            return -3
        self.standing.remove(m)
        return 0

    def ask(self, x):
        if x not in self.filed:
            return -4
        if x not in self.here:
            return 1
        if self.classes[self.of[x]][1] == 0:
            return -9
        self.due[x] = min(self.due[x], self.now)
        return 0

    def tick(self, moment):
        before = len(self.gone)
        refusal = self.at(moment, lambda: 0)
        told = [x for x, at in self.gone[before:]]
        return [refusal] if refusal < 0 else [len(told), *told]

    def thing(self, x):
        if x not in self.filed:
            return [-4]
        return [0 if x in self.here else 1, self.of[x], self.filed[x], self.due[x], dict(self.gone).get(x, 0),
                *sorted(b for a, b in self.needs if a == x)]

    def goings(self):
        """Ticks and nothing else, on a copy; nothing can go but at some thing's due."""
        here, goings = set(self.here), {}
        for now in sorted({self.now} | {self.due[x] for x in here}):
            kept = self.kept(here, now)
            goings.update({x: now for x in here - kept})
            here = kept
        return goings

    def when(self, x):
        if x not in self.here:
            return [-4]
        goings = self.goings()
        return [0, goings[x]] if x in goings else [1]

    def next(self):
        first = sorted((moment, x) for x, moment in self.goings().items())[:1]
        return [0, first[0][1], first[0][0]] if first else [1]

    def why(self, x):
        if x not in self.here:
            return [-4]
        if self.now < self.due[x]:
            return [1]
        if x in self.held():
            return [2]
        return [3, *sorted(a for a, b in self.needs if b == x and a in self.here)]

    def went(self, i):
        return [0, *self.gone[i]] if i < len(self.gone) else [-4]

    def told(self):
        return [0, self.now, len(self.classes), len(self.filed), len(self.here), len(self.standing), len(self.gone)]


class Line:
    """Calls that are made up one by one, each with what the model answers."""

    def __init__(self, seed, start=0, keeps=range(30)):
        self.chance = random.Random(seed)
        self.model = Model()
        self.start, self.keeps = start, keeps
        self.calls, self.expected = [], []

    def number(self, many):
        return self.chance.randrange(many + 1) if self.chance.random() < 0.2 else self.chance.randrange(max(many, 1))

    def here(self):
        around = sorted(self.model.here)
        return self.chance.choice(around) if around and self.chance.random() < 0.8 else self.thing()

    def thing(self):
        return HIGHEST if self.chance.random() < 0.01 else self.number(len(self.model.filed))

    def row(self, of, many):
        row = [of() for k in range(self.chance.randrange(many))]
        return row if self.chance.random() < 0.1 else sorted(set(row))

    def moment(self):
        if self.chance.random() < 0.04:
            return self.chance.choice([MOMENT_END, HIGHEST, max(self.model.now - 1, 0)])
        return max(self.model.now, self.start) + self.chance.choice([0, 0, 0, 1, 1, 2, 5])

    def which(self):
        return self.number(len(self.model.classes))

    def matter(self):
        return self.number(len(self.model.names))

    def lists(self):
        return self.row(self.here, 4), self.row(self.which, 2)

    def add(self, call, answer):
        self.calls.append(call)
        self.expected.append([answer] if isinstance(answer, int) else answer)

    def begin(self):
        for early in (0, 1, 1):
            keep = self.chance.choice(self.keeps)
            self.add(make_class(keep, early), self.model.make_class(keep, early))

    def add_class(self):
        rest = (self.chance.choice(self.keeps), self.chance.choice([0, 1, 1, 2]))
        self.add(make_class(*rest), self.model.make_class(*rest))

    def add_longer(self):
        rest = (self.which(), self.chance.choice(self.keeps) + self.chance.randrange(15))
        self.add(longer(*rest), self.model.longer(*rest))

    def add_act(self, call, act, *rest):
        now = self.moment()
        self.add(call(now, *rest), self.model.at(now, act, *rest))

    def add_telling(self):
        """One of the calls that tell, the tick among them."""
        x, i, model = self.here(), self.number(len(self.model.gone)), self.model
        kind = self.chance.choices(range(7), [6, 2, 4, 3, 4, 1, 1])[0]
        if kind == 0:
            now = self.moment()
            now = min(now + self.chance.choice([0, 0, 2, 6, 15, 30]), max(now, MOMENT_END - 1))
            self.add(tick(now), model.tick(now))
        else:
            self.add(*[(thing(x), model.thing(x)), (when(x), model.when(x)), (NEXT, model.next()),
                       (why(x), model.why(x)), (went(i), model.went(i)), (TOLD, model.told())][kind - 1])

    def step(self):
        model = self.model
        kind = self.chance.choices(range(9), [1, 2, 9, 6, 2, 2, 3, 4, 8])[0]
        if kind == 0:
            self.add_class()
        elif kind == 1:
            self.add_longer()
        elif kind == 2:
            self.add_act(file, model.file, self.which(), self.row(self.here, 4))
        elif kind == 3:
            self.add_act(need, model.need, self.here(), self.here())
        elif kind == 4:
            self.add_act(matter, model.matter, *self.lists())
        elif kind == 5:
            self.add_act(more, model.more, self.matter(), *self.lists())
        elif kind == 6:
            self.add_act(release, model.release, self.matter())
        elif kind == 7:
            self.add_act(ask, model.ask, self.here())
        else:
            self.add_telling()

    def ends(self):
        """All that can be told behind the line, in pieces that may be handed in behind it."""
        model, every = self.model, range(len(self.model.filed) + 1)
        goings = model.goings()
        yield [(thing(x), model.thing(x)) for x in every] + [(TOLD, model.told())]
        yield [(went(i), model.went(i)) for i in range(len(model.gone) + 1)] + [(NEXT, model.next())]
        yield [(why(x), model.why(x)) for x in every]
        yield [(when(x), [0, goings[x]] if x in goings else [1] if x in model.here else [-4]) for x in every]


class AgainstTheModel(unittest.TestCase):
    def check(self, seed, steps, **kinds):
        line = Line(seed, **kinds)
        line.begin()
        for k in range(steps):
            line.step()
        for end in line.ends():
            calls, expected = line.calls + [call for call, told in end], line.expected + [told for call, told in end]
            self.assertEqual(given(*calls), expected, f"seed {seed}")

    def test_short_lines(self):
        for seed in range(400):
            self.check(seed, 25)

    def test_long_lines(self):
        for seed in range(1000, 1040):
            self.check(seed, 280)

    def test_lines_of_things_that_stay(self):
        # Many things at once, so that chains, circles and dues meet more often.
        for seed in range(2000, 2040):
            self.check(seed, 150, keeps=range(20, 120))

    def test_lines_at_the_highest_moments(self):
        for seed in range(3000, 3100):
            self.check(seed, 40, start=MOMENT_END - 40, keeps=[3, 20, 40, KEEP_END - 20, KEEP_END - 1])


if __name__ == "__main__":
    unittest.main()
