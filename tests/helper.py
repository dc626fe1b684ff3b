"""Calls written by name, their answers told apart, and a plain site to compare with."""

from crewscrane.sites import answers

HUGE = 4294967295
NAMES = ("begin", "work", "after", "unafter", "crew", "longer", "fix", "unfix", "early", "late",
         "slack", "span", "shortest", "plan", "day", "use", "enough", "behind", "look", "state")


def begin(a, b, c):
    return [0, a, b, c]


def work(days, kind=0, persons=0, crane=0):
    return [1, days, kind, persons, crane]


def after(a, b, wait=0):
    return [2, a, b, wait]


def unafter(a, b):
    return [3, a, b]


def crew(kind, n):
    return [4, kind, n]


def longer(a, n):
    return [5, a, n]


def fix(a, d):
    return [6, a, d]


def unfix(a):
    return [7, a]


def early():
    return [8]


def late(e):
    return [9, e]


def slack():
    return [10]


def span():
    return [11]


def shortest():
    return [12]


def plan():
    return [13]


def day(d):
    return [14, d]


def use(kind):
    return [15, kind]


def enough(kind):
    return [16, kind]


def behind(a):
    return [17, a]


def look(a):
    return [18, a]


def state():
    return [19]


def line_of(calls):
    return [number for call in calls for number in call]


def rows_of(told):
    """Split what is given back into one list of numbers for each call."""
    rows = []
    place = 0
    while place < len(told):
        size = told[place]
        rows.append(told[place + 1:place + 1 + size])
        assert len(rows[-1]) == size >= 1
        place += 1 + size
    return rows


def ask(*calls):
    """Give the answer to each call, in order."""
    rows = rows_of(answers(line_of(calls)))
    assert len(rows) == len(calls)
    return rows


def last(*calls):
    return ask(*calls)[-1]


class PlainSite:
    """The calls over again, with searches that try every day of every work."""

    def __init__(self):
        self.crews = None
        self.works = []
        self.fixed = {}
        self.waits = {}

    def answer(self, call):
        if call[0] != 0 and self.crews is None:
            return [-11]
        return getattr(self, NAMES[call[0]])(*call[1:])

    def keep_if_some_plan_holds(self, answer, crews=None, works=None, fixed=None, waits=None):
        trial = PlainSite()
        trial.crews = self.crews if crews is None else crews
        trial.works = self.works if works is None else works
        trial.fixed = self.fixed if fixed is None else fixed
        trial.waits = self.waits if waits is None else waits
        if not trial.some_plan_holds():
            return [-33]
        self.__dict__ = trial.__dict__
        return [answer]

    def some_plan_holds(self):
        return all(persons <= self.crews[kind] for _, kind, persons, _ in self.works) and self.search({})

    def search(self, starts):
        if len(starts) == len(self.works):
            return True
        number = next(k for k in self.narrowest_first() if k not in starts)
        horizon = max(self.fixed.values(), default=0) + sum(days for days, *_ in self.works) + 5 * len(self.waits) + 1
        for day in [self.fixed[number]] if number in self.fixed else range(horizon):
            more = {**starts, number: day}
            if self.holds(more) and self.search(more):
                return True
        return False

    def narrowest_first(self):
        bound = set(self.fixed)
        for _ in self.works:
            bound |= {a for a, b in self.waits if b in bound}
        return sorted(range(len(self.works)), key=lambda k: (k not in self.fixed, k not in bound))

    def holds(self, starts):
        for (a, b), wait in self.waits.items():
            if a in starts and b in starts and starts[b] < starts[a] + self.works[a][0] + wait:
                return False
        for day in {starts[k] + i for k in starts for i in range(self.works[k][0])}:
            busy = [self.works[k] for k in starts if starts[k] <= day < starts[k] + self.works[k][0]]
            if sum(crane for *_, crane in busy) > 1:
                return False
            for kind in range(3):
                if sum(persons for _, its, persons, _ in busy if its == kind) > self.crews[kind]:
                    return False
        return True

    def begin(self, *crews):
        if max(crews) > 9:
            return [-22]
        self.__init__()
        self.crews = list(crews)
        return [0]

    def work(self, days, kind, persons, crane):
        if not 1 <= days <= 5 or kind > 2 or persons > 9 or crane > 1:
            return [-22]
        if len(self.works) == 6:
            return [-28]
        return self.keep_if_some_plan_holds(len(self.works), works=self.works + [(days, kind, persons, crane)])

    def after(self, a, b, wait):
        if max(a, b) >= len(self.works):
            return [-2]
        if wait > 5:
            return [-22]
        if (a, b) in self.waits:
            return [-17]
        behind = {b}
        for _ in self.works:
            behind |= {d for c, d in self.waits if c in behind}
        if a in behind:
            return [-61]
        return self.keep_if_some_plan_holds(0, waits={**self.waits, (a, b): wait})

    def unafter(self, a, b):
        if max(a, b) >= len(self.works):
            return [-2]
        return [-6] if self.waits.pop((a, b), None) is None else [0]

    def crew(self, kind, n):
        if kind > 2 or n > 9:
            return [-22]
        crews = list(self.crews)
        crews[kind] = n
        return self.keep_if_some_plan_holds(self.crews[kind], crews=crews)

    def longer(self, a, n):
        if a >= len(self.works):
            return [-2]
        days, *others = self.works[a]
        if n == 0 or days + n > 5:
            return [-22]
        works = list(self.works)
        works[a] = (days + n, *others)
        return self.keep_if_some_plan_holds(days + n, works=works)

    def fix(self, a, d):
        if a >= len(self.works):
            return [-2]
        if d > 99:
            return [-22]
        return self.keep_if_some_plan_holds(0, fixed={**self.fixed, a: d})

    def unfix(self, a):
        if a >= len(self.works):
            return [-2]
        return [-6] if self.fixed.pop(a, None) is None else [0]

    def days_without_crews(self):
        days = [0] * len(self.works)
        for _ in self.works:
            for (a, b), wait in self.waits.items():
                days[b] = max(days[b], days[a] + self.works[a][0] + wait)
        return days

    def early(self):
        return [len(self.works)] + self.days_without_crews()

    def latest_days(self, end):
        days = [end - row[0] for row in self.works]
        for _ in self.works:
            for (a, b), wait in self.waits.items():
                days[a] = min(days[a], days[b] - wait - self.works[a][0])
        return days

    def late(self, e):
        if e > 99:
            return [-22]
        if e < self.span()[0]:
            return [-33]
        return [len(self.works)] + self.latest_days(e)

    def slack(self):
        return [len(self.works)] + [b - a for a, b in zip(self.early()[1:], self.late(self.span()[0])[1:])]

    def span(self):
        return [max([day + row[0] for day, row in zip(self.days_without_crews(), self.works)], default=0)]

    def first_plan(self, end, starts=()):
        """Give the first plan that ends by that day, in the order of work 0's day, then of work 1's, and so on."""
        number = len(starts)
        if number == len(self.works):
            return list(starts)
        first, last = self.days_without_crews()[number], self.latest_days(end)[number]
        for day in [self.fixed[number]] if number in self.fixed else range(first, last + 1):
            more = (*starts, day)
            if first <= day <= last and self.holds(dict(enumerate(more))):
                found = self.first_plan(end, more)
                if found is not None:
                    return found
        return None

    def end_and_best(self):
        """Try one end behind another: the first by which there's a plan is that of the best one."""
        end = max([self.span()[0]] + [day + self.works[k][0] for k, day in self.fixed.items()])
        while self.first_plan(end) is None:
            end += 1
        return end, self.first_plan(end)

    def shortest(self):
        return [self.end_and_best()[0]]

    def plan(self):
        return [len(self.works)] + self.end_and_best()[1]

    def busy(self, day):
        return [k for k, start in enumerate(self.end_and_best()[1]) if start <= day < start + self.works[k][0]]

    def day(self, d):
        return [len(self.busy(d))] + self.busy(d)

    def use(self, kind):
        if kind > 2:
            return [-22]
        needed = {}
        for (days, its, persons, _), start in zip(self.works, self.end_and_best()[1]):
            for day in range(start, start + days):
                needed[day] = needed.get(day, 0) + (persons if its == kind else 0)
        return [max(needed.values(), default=0)]

    def end_by(self, kind, n):
        """Give when the best plan ends with so many of that kind; None if none holds."""
        trial = PlainSite()
        trial.__dict__.update(self.__dict__)
        trial.crews = [*self.crews[:kind], n, *self.crews[kind + 1:]]
        return trial.end_and_best()[0] if trial.some_plan_holds() else None

    def enough(self, kind):
        if kind > 2:
            return [-22]
        most = sum(persons for _, its, persons, _ in self.works if its == kind)
        return [next(n for n in range(most + 1) if self.end_by(kind, n) == self.end_by(kind, most))]

    def behind(self, a):
        if a >= len(self.works):
            return [-2]
        found = set()
        for _ in self.works:
            found |= {d for c, d in self.waits if c == a or c in found}
        return [len(found), *sorted(found)]

    def look(self, a):
        if a >= len(self.works):
            return [-2]
        told = [(c, wait) for (c, b), wait in self.waits.items() if b == a]
        return [*self.works[a], self.fixed.get(a, -1) + 1, len(told), *[number for row in told for number in row]]

    def state(self):
        return [len(self.works), *self.crews]
