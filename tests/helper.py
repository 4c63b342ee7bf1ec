"""Calls in the form in which they are handed in, and answers read back."""

from keptuntil.office import answers

KEEP_END = 2 ** 39
MOMENT_END = 2 ** 40
HIGHEST = 18446744073709551615

# What ask answers of a thing whose class doesn't let it go earlier: it changes
# nothing but the moment, so it shows whether the thing is here.
HERE = -9
GONE = 1


def make_class(keep, early=0):
    return [0, keep, early]


def longer(which, keep):
    return [1, which, keep]


def file(moment, which=0, needs=()):
    return [2, moment, which, len(needs), *needs]


def need(moment, x, y):
    return [3, moment, x, y]


def matter(moment, things=(), classes=()):
    return [4, moment, len(things), *things, len(classes), *classes]


def more(moment, number, things=(), classes=()):
    return [5, moment, number, len(things), *things, len(classes), *classes]


def release(moment, number):
    return [6, moment, number]


def ask(moment, thing):
    return [7, moment, thing]


def tick(moment):
    return [8, moment]


def thing(x):
    return [9, x]


def when(x):
    return [10, x]


NEXT = [11]


def why(x):
    return [12, x]


def went(i):
    return [13, i]


TOLD = [14]


def joined(calls):
    return [number for call in calls for number in call]


def read(flat):
    """The answers that are given back, each as its number and what is behind it; their form is checked."""
    found, at = [], 0
    while at < len(flat):
        answer = flat[at + 1:at + 1 + flat[at]]
        number, count_of_bytes, many, *others = answer
        if len(answer) != flat[at] or count_of_bytes != 0 or many != len(others) or (number < 0 and others):
            raise AssertionError(f"not the form of an answer: {flat[at]}, {answer}")
        found.append([number, *others])
        at += 1 + flat[at]
    return found


def given(*calls):
    """What each call answers: its number, then the list behind it."""
    handed_in = joined(calls)
    if len(calls) > 400 or len(handed_in) > 16000:
        raise AssertionError(f"more than may be handed in: {len(calls)} calls, {len(handed_in)} numbers")
    found = read(answers(handed_in))
    if len(found) != len(calls):
        raise AssertionError(f"{len(calls)} calls, {len(found)} answers: {found}")
    for call, answer in zip(calls, found):
        if call[0] < 8 and len(answer) > 1:
            raise AssertionError(f"{call} answers a number alone, not {answer}")
    return found


def answered(*calls):
    """The number that each call answers."""
    return [answer[0] for answer in given(*calls)]


def last(*calls):
    """The number that the last of these calls answers."""
    return answered(*calls)[-1]


def last_ones(many, *calls):
    return answered(*calls)[-many:]


def given_last(*calls):
    """What the last of these calls answers, whole."""
    return given(*calls)[-1]
