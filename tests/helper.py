"""Calls in the form in which they are handed in, and answers read back."""

from keptuntil.office import answers

KEEP_END = 2 ** 39
MOMENT_END = 2 ** 40
HIGHEST = 18446744073709551615

# What ask answers of a thing whose class doesn't let it go earlier: it changes
# nothing but the moment, so it shows whether the thing is here.
HERE = -9
GONE = 1


def make_class(keep, early=0):
    return [0, keep, early]


def longer(which, keep):
    return [1, which, keep]


def file(moment, which=0, needs=()):
    return [2, moment, which, len(needs), *needs]


def need(moment, x, y):
    return [3, moment, x, y]


def matter(moment, things=(), classes=()):
    return [4, moment, len(things), *things, len(classes), *classes]


def more(moment, number, things=(), classes=()):
    return [5, moment, number, len(things), *things, len(classes), *classes]


def release(moment, number):
    return [6, moment, number]


def ask(moment, thing):
    return [7, moment, thing]


def joined(calls):
    return [number for call in calls for number in call]


def told(*calls):
    """The number that each call answers; each answer must have the form of a bare number."""
    handed_in = joined(calls)
    if len(calls) > 400 or len(handed_in) > 16000:
        raise AssertionError(f"more than may be handed in: {len(calls)} calls, {len(handed_in)} numbers")
    given = answers(handed_in)
    if len(given) != 4 * len(calls):
        raise AssertionError(f"{len(calls)} calls, {len(given)} numbers back: {given}")
    for at in range(0, len(given), 4):
        if given[at] != 3 or given[at + 2:at + 4] != [0, 0]:
            raise AssertionError(f"not the form of a number: {given[at:at + 4]}")
    return given[1::4]


def last(*calls):
    """What the last of these calls answers."""
    return told(*calls)[-1]


def last_ones(many, *calls):
    return told(*calls)[-many:]
