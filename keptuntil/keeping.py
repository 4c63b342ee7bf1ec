"""What is here, held and kept, and letting go of the rest."""


def is_here(office, x):
    return x < len(office.things) and office.things[x].here


def is_held(office, x):
    which = office.things[x].which
    for matter in office.matters:
        if matter.stands and (x in matter.things or which in matter.classes):
            return True
    return False


def kept_by_itself(office, x):
    thing = office.things[x]
    return thing.here and (office.moment < thing.due or is_held(office, x))


def kept_things(office):
    """All that is kept at the last moment told, as a dict of True."""
    waiting = [x for x in range(len(office.things)) if kept_by_itself(office, x)]
    kept = {}
    for x in waiting:
        kept[x] = True
    # Only what is reached from outside is kept: a circle alone doesn't keep itself.
    while len(waiting) > 0:
        x = waiting.pop()
        # What a thing that is here needs is here too, so it isn't asked again.
        for y in office.things[x].needs:
            if y not in kept:
                kept[y] = True
                waiting.append(y)
    return kept


def let_go(office):
    kept = kept_things(office)
    for x in range(len(office.things)):
        thing = office.things[x]
        if thing.here and x not in kept:
            thing.here = False
