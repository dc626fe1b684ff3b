"""What a site is: its crews, its works, and its best plan."""


class Work:
    def __init__(self, days, kind, persons, crane):
        self.days = days
        self.kind = kind
        self.persons = persons
        self.crane = crane
        # The day it is fixed to; None: it isn't.
        self.fixed = None
        # From each work that this one comes after to the wait behind it: a dict, since it keeps the order of telling.
        self.waits = {}

    def twin(self):
        other = Work(self.days, self.kind, self.persons, self.crane)
        other.fixed = self.fixed
        other.waits = dict(self.waits)
        return other


class Site:
    def __init__(self):
        self.begun = False
        self.crews = [0, 0, 0]
        self.works = []
        # The best plan: the day on which each work begins.
        self.plan = []

    def begin_with(self, crews):
        self.begun = True
        self.crews = crews
        self.works = []
        self.plan = []

    # A change is tried on a twin first, so that a refused one leaves no trace.
    def twin(self):
        other = Site()
        other.begun = self.begun
        other.crews = list(self.crews)
        other.works = [work.twin() for work in self.works]
        other.plan = list(self.plan)
        return other

    def become(self, other):
        self.begun = other.begun
        self.crews = other.crews
        self.works = other.works
        self.plan = other.plan
