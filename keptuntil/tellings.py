"""What each call tells that changes nothing: the number it answers, and the list behind it."""

from keptuntil.keeping import is_held, is_here, moments_of_going, things_here
from keptuntil.refusals import NOT_THERE


def tell_thing(office, x):
    if x >= len(office.things):
        return NOT_THERE, []
    thing = office.things[x]
    gone = 0 if thing.here else 1
    return gone, [thing.which, thing.filed, thing.due, thing.gone_at] + sorted(thing.needs)


def tell_when(office, x):
    if not is_here(office, x):
        return NOT_THERE, []
    moment = moments_of_going(office)[x]
    if moment is None:
        return 1, []
    return 0, [moment]


def tell_next(office):
    moments = moments_of_going(office)
    going = [(moments[x], x) for x in moments if moments[x] is not None]
    if len(going) == 0:
        return 1, []
    first = min(going)
    return 0, [first[1], first[0]]


def tell_why(office, x):
    if not is_here(office, x):
        return NOT_THERE, []
    if office.moment < office.things[x].due:
        return 1, []
    if is_held(office, x):
        return 2, []
    return 3, [y for y in things_here(office) if x in office.things[y].needs]


def tell_went(office, i):
    if i >= len(office.gone):
        return NOT_THERE, []
    x = office.gone[i]
    return 0, [x, office.things[x].gone_at]


def tell_told(office):
    here = len(office.things) - len(office.gone)
    standing = len([matter for matter in office.matters if matter.stands])
    return 0, [office.moment, len(office.classes), len(office.things), here, standing, len(office.gone)]
