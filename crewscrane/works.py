"""What a site is: its crews, and its works."""


class Work:
    def __init__(self, days, kind, persons, crane):
        self.days = days
        self.kind = kind
        self.persons = persons
        self.crane = crane
        # The day it is fixed to; None: it isn't.
        self.fixed = None
        # From each work that this one comes after to the wait behind it: a dict, since it keeps the order of telling.
        self.waits = {}

    def twin(self):
        other = Work(self.days, self.kind, self.persons, self.crane)
        other.fixed = self.fixed
        other.waits = dict(self.waits)
        return other


class Site:
    def __init__(self):
        self.begun = False
        self.crews = [0, 0, 0]
        self.works = []

    def begin_with(self, crews):
        self.begun = True
        self.crews = crews
        self.works = []

    # A change is tried on a twin first, so that a refused one leaves no trace.
    def twin(self):
        other = Site()
        other.begun = self.begun
        other.crews = list(self.crews)
        other.works = [work.twin() for work in self.works]
        return other

    def become(self, other):
        self.begun = other.begun
        self.crews = other.crews
        self.works = other.works
