"""What each call does that changes an office; a call's moment is told by then."""

from keptuntil.keeping import is_here
from keptuntil.records import Matter, Thing, ThingClass
from keptuntil.refusals import FULL, NOT_LET, NOT_THERE, RELEASED, TOO_MANY, WRONG

# 2^39: no class keeps its things so long.
KEEP_LIMIT = 549755813888
MOST_CLASSES = 16
MOST_THINGS = 256
MOST_MATTERS = 32
MOST_NEEDS = 16
MOST_NAMED = 256


def is_rising(numbers):
    for k in range(1, len(numbers)):
        if numbers[k] <= numbers[k - 1]:
            return False
    return True


def all_here(office, numbers):
    for x in numbers:
        if not is_here(office, x):
            return False
    return True


def all_classes(office, numbers):
    for which in numbers:
        if which >= len(office.classes):
            return False
    return True


def make_class(office, keep, early):
    if keep >= KEEP_LIMIT or early > 1:
        return WRONG
    if len(office.classes) >= MOST_CLASSES:
        return FULL
    office.classes.append(ThingClass(keep, early))
    return len(office.classes) - 1


def make_longer(office, which, keep):
    if which >= len(office.classes):
        return NOT_THERE
    changed = office.classes[which]
    if keep >= KEEP_LIMIT or keep < changed.keep:
        return WRONG
    for thing in office.things:
        # An asking that was heeded made its thing due earlier; that stays.
        unmoved = thing.due == thing.filed + changed.keep
        if thing.here and thing.which == which and unmoved:
            thing.due = thing.filed + keep
    changed.keep = keep
    return 0


def file_thing(office, which, needs):
    if len(needs) > MOST_NEEDS:
        return TOO_MANY
    if not is_rising(needs):
        return WRONG
    if which >= len(office.classes):
        return NOT_THERE
    if not all_here(office, needs):
        return NOT_THERE
    if len(office.things) >= MOST_THINGS:
        return FULL
    due = office.moment + office.classes[which].keep
    office.things.append(Thing(which, office.moment, due, needs))
    return len(office.things) - 1


def add_need(office, x, y):
    if not is_here(office, x) or not is_here(office, y):
        return NOT_THERE
    needs = office.things[x].needs
    if y in needs:
        return 1
    if len(needs) >= MOST_NEEDS:
        return FULL
    needs.append(y)
    return 0


def fault_of_names(office, things, classes):
    """The refusal that lists for a matter bring; 0: none."""
    if len(things) > MOST_NAMED or len(classes) > MOST_NAMED:
        return TOO_MANY
    if not is_rising(things) or not is_rising(classes):
        return WRONG
    if not all_here(office, things) or not all_classes(office, classes):
        return NOT_THERE
    return 0


def add_names(matter, things, classes):
    for x in things:
        matter.things[x] = True
    for which in classes:
        matter.classes[which] = True


def make_matter(office, things, classes):
    fault = fault_of_names(office, things, classes)
    if fault < 0:
        return fault
    if len(office.matters) >= MOST_MATTERS:
        return FULL
    matter = Matter()
    add_names(matter, things, classes)
    office.matters.append(matter)
    return len(office.matters) - 1


def fault_of_matter(office, number):
    """The refusal that a matter's number brings; 0: none, it stands."""
    if number >= len(office.matters):
        return NOT_THERE
    if not office.matters[number].stands:
        return RELEASED
    return 0


def name_more(office, number, things, classes):
    fault = fault_of_names(office, things, classes)
    if fault == 0:
        fault = fault_of_matter(office, number)
    if fault == 0:
        add_names(office.matters[number], things, classes)
    return fault


def release_matter(office, number):
    fault = fault_of_matter(office, number)
    if fault == 0:
        matter = office.matters[number]
        matter.stands = False
    return fault


def ask_thing(office, x):
    if x >= len(office.things):
        return NOT_THERE
    thing = office.things[x]
    if not thing.here:
        return 1
    if office.classes[thing.which].early == 0:
        return NOT_LET
    thing.due = min(thing.due, office.moment)
    return 0
