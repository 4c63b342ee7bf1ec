"""What an office holds: its classes, its things, its matters, what went, the last moment told."""


class ThingClass:
    def __init__(self, keep, early):
        self.keep = keep
        self.early = early


class Thing:
    def __init__(self, which, filed, due, needs):
        self.which = which
        self.filed = filed
        self.due = due
        self.needs = list(needs)
        self.here = True
        self.gone_at = 0


class Matter:
    def __init__(self):
        self.things = {}
        self.classes = {}
        self.stands = True


class Office:
    def __init__(self):
        self.moment = 0
        self.classes = []
        self.things = []
        self.matters = []
        # The numbers of the things that went, in the order in which they did.
        self.gone = []
