"""What is here, held and kept, till when, and letting go of the rest."""


def is_here(office, x):
    return x < len(office.things) and office.things[x].here


def things_here(office):
    return [x for x in range(len(office.things)) if office.things[x].here]


def is_held(office, x):
    which = office.things[x].which
    for matter in office.matters:
        if matter.stands and (x in matter.things or which in matter.classes):
            return True
    return False


def kept_by_itself(office, x):
    return office.moment < office.things[x].due or is_held(office, x)


def mark_with_needs(office, x, mark, marks):
    """Mark a thing and all that it needs, through however many others, but for what is marked already."""
    waiting = [x]
    while len(waiting) > 0:
        y = waiting.pop()
        # What a thing that is here needs is here too, so it isn't asked again.
        if y not in marks:
            marks[y] = mark
            waiting.extend(office.things[y].needs)


def kept_things(office):
    """All that is kept at the last moment told, as a dict of True."""
    kept = {}
    # Only what is reached from outside is kept: a circle alone doesn't keep itself.
    for x in things_here(office):
        if kept_by_itself(office, x):
            mark_with_needs(office, x, True, kept)
    return kept


def let_go(office):
    """Let go of all that is here and not kept; what went, by rising numbers."""
    kept = kept_things(office)
    went = [x for x in things_here(office) if x not in kept]
    for x in went:
        thing = office.things[x]
        thing.here = False
        thing.gone_at = office.moment
    office.gone.extend(went)
    return went


def moments_of_going(office):
    """By each thing here: the first moment at which it would go by ticks alone; None: it wouldn't."""
    moments = {}
    here = things_here(office)
    for x in here:
        if is_held(office, x):
            mark_with_needs(office, x, None, moments)
    # From the latest due on: what marks a thing first is what keeps it longest.
    for x in sorted(here, key=lambda y: office.things[y].due, reverse=True):
        mark_with_needs(office, x, office.things[x].due, moments)
    return moments
