"""Calls as they are handed in, one behind another, and their answers."""

from keptuntil.acts import add_need, ask_thing, file_thing, make_class
from keptuntil.acts import make_longer, make_matter, name_more, release_matter
from keptuntil.keeping import let_go
from keptuntil.records import Office
from keptuntil.refusals import BELOW_LAST, WRONG
from keptuntil.tellings import tell_next, tell_thing, tell_told, tell_went, tell_when, tell_why

# 2^40: no call can tell this moment or a later one.
MOMENT_LIMIT = 1099511627776

MAKE_CLASS = 0
LONGER = 1
FILE = 2
NEED = 3
MATTER = 4
MORE = 5
RELEASE = 6
TICK = 8
THING = 9
WHEN = 10
NEXT = 11
WHY = 12
WENT = 13

# By a call's number: how many whole numbers it has, then how many rows.
SHAPES = (
    (2, 0),
    (2, 0),
    (2, 1),
    (3, 0),
    (1, 2),
    (2, 2),
    (2, 0),
    (2, 0),
    (1, 0),
    (1, 0),
    (1, 0),
    (0, 0),
    (1, 0),
    (1, 0),
    (0, 0),
)


def act(office, call, numbers, rows):
    """Do what a call asks whose moment is told; numbers are those behind the moment."""
    if call == FILE:
        return file_thing(office, numbers[0], rows[0])
    if call == NEED:
        return add_need(office, numbers[0], numbers[1])
    if call == MATTER:
        return make_matter(office, rows[0], rows[1])
    if call == MORE:
        return name_more(office, numbers[0], rows[0], rows[1])
    if call == RELEASE:
        return release_matter(office, numbers[0])
    # Only ask is left: a tick asks for nothing.
    return ask_thing(office, numbers[0])


def act_at_moment(office, call, numbers, rows):
    moment = numbers[0]
    if moment >= MOMENT_LIMIT:
        return WRONG, []
    if moment < office.moment:
        return BELOW_LAST, []
    # A refusal behind this line still leaves the moment told.
    office.moment = moment
    went = let_go(office)
    if call == TICK:
        # It does nothing by which more could go, so there's no second letting go.
        return len(went), went
    number = act(office, call, numbers[1:], rows)
    let_go(office)
    return number, []


def tell(office, call, numbers):
    if call == THING:
        return tell_thing(office, numbers[0])
    if call == WHEN:
        return tell_when(office, numbers[0])
    if call == NEXT:
        return tell_next(office)
    if call == WHY:
        return tell_why(office, numbers[0])
    if call == WENT:
        return tell_went(office, numbers[0])
    return tell_told(office)


def answer_call(office, call, numbers, rows):
    """The number that a call answers, and the list behind it."""
    if call == MAKE_CLASS:
        return make_class(office, numbers[0], numbers[1]), []
    if call == LONGER:
        return make_longer(office, numbers[0], numbers[1]), []
    if call <= TICK:
        return act_at_moment(office, call, numbers, rows)
    return tell(office, call, numbers)


def written(number, others):
    """An answer as it is given back; the 0 is its count of bytes."""
    return [3 + len(others), number, 0, len(others)] + others


def read_rows(calls, at, many):
    rows = []
    while len(rows) < many:
        start = at + 1
        at = start + calls[at]
        rows.append(calls[start:at])
    return rows


def answers(calls):
    """What each of the calls answers, one behind another, on a new office."""
    office = Office()
    given = []
    at = 0
    while at < len(calls):
        call = calls[at]
        shape = SHAPES[call]
        behind = at + 1 + shape[0]
        numbers = calls[at + 1:behind]
        rows = read_rows(calls, behind, shape[1])
        at = behind + sum([1 + len(row) for row in rows])
        answer = answer_call(office, call, numbers, rows)
        given.extend(written(answer[0], answer[1]))
    return given
