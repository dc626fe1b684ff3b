"""What the placed works take on each day: hands of the crews, and the crane."""


class Board:
    def __init__(self, crews):
        self.crews = crews
        # For each kind, from a day to how many of its crew are taken on it.
        self.hands = [{} for size in crews]
        # From a day to how many cranes are taken on it.
        self.cranes = {}

    def put(self, work, first):
        self.take(work, first, work.persons, work.crane)

    def lift(self, work, first):
        self.take(work, first, -work.persons, -work.crane)

    def take(self, work, first, persons, cranes):
        hands = self.hands[work.kind]
        for day in range(first, first + work.days):
            hands[day] = hands.get(day, 0) + persons
            self.cranes[day] = self.cranes.get(day, 0) + cranes

    # The first day from a given one on that a work can begin on; there is one if its crew is enough for it alone.
    def first_day(self, work, day):
        clash = self.last_clash(work, day)
        while clash is not None:
            day = clash + 1
            clash = self.last_clash(work, day)
        return day

    # The last of the days of a work that begins on a given one on which hands or the crane are missing; None without.
    def last_clash(self, work, first):
        hands = self.hands[work.kind]
        spare = self.crews[work.kind] - work.persons
        for day in range(first + work.days - 1, first - 1, -1):
            if hands.get(day, 0) > spare or self.cranes.get(day, 0) + work.crane > 1:
                return day
        return None
