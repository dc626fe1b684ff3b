"""Where -33 is answered and where it isn't: the document's corners, and all sorts of sites against a plain search."""

import random
import unittest

from helper import after, ask, begin, crew, early, fix, last, late, longer, unafter, unfix, work


class Corners(unittest.TestCase):
    def test_a_wait_behind_a_fixed_work(self):
        site = [begin(1, 1, 1), work(2), work(1), after(0, 1, 5), fix(0, 10)]
        self.assertEqual(last(*site, fix(1, 16)), [-33])
        self.assertEqual(last(*site, fix(1, 17)), [0])

    def test_a_wait_behind_a_work_behind_a_fixed_one(self):
        site = [begin(1, 1, 1), work(2), work(3), work(1), after(0, 1, 5), after(1, 2, 1), fix(0, 10)]
        self.assertEqual(last(*site, fix(2, 20)), [-33])
        self.assertEqual(last(*site, fix(2, 21)), [0])

    def test_a_work_without_persons(self):
        self.assertEqual(ask(begin(0, 0, 0), work(1, 0, 0), work(1, 0, 1))[1:], [[0], [-33]])
        rows = ask(begin(1, 0, 0), work(5, 0, 1), work(5, 0, 0), fix(0, 0), fix(1, 0), crew(0, 0))
        self.assertEqual(rows[3:], [[0], [0], [-33]])

    def test_two_that_want_the_crane(self):
        site = [begin(9, 9, 9), work(2, 0, 1, 1), work(2, 1, 1, 1), fix(0, 4)]
        asked = [(2, 0), (3, -33), (4, -33), (5, -33), (6, 0)]
        for d, answer in asked:
            self.assertEqual(last(*site, fix(1, d)), [answer], d)

    def test_one_that_wants_the_crane_beside_one_that_does_not(self):
        self.assertEqual(last(begin(9, 9, 9), work(2, 0, 1, 1), work(2, 0, 1, 0), fix(0, 4), fix(1, 4)), [0])

    def test_two_that_want_the_crane_in_front_of_a_fixed_one(self):
        site = [begin(9, 9, 9), work(2, 0, 0, 1), work(3, 1, 0, 1), work(1), after(0, 2), after(1, 2)]
        self.assertEqual(last(*site, fix(2, 4)), [-33])
        self.assertEqual(last(*site, fix(2, 5)), [0])

    def test_a_crew_of_0(self):
        rows = ask(begin(0, 5, 0), work(1, 1, 5), crew(1, 0), work(1, 0, 1), work(1, 2, 0), crew(2, 0))
        self.assertEqual(rows[1:], [[0], [-33], [-33], [1], [0]])

    def test_a_work_fixed_so_late_that_all_others_are_done(self):
        rows = ask(begin(1, 1, 1), work(5, 0, 1, 1), work(5, 0, 1, 1), work(5, 0, 1, 1), after(1, 0), after(2, 0),
                   fix(0, 99), fix(0, 10), fix(0, 9), early())
        self.assertEqual(rows[6:], [[0], [0], [-33], [3, 5, 0, 0]])

    def test_others_go_behind_a_work_fixed_late(self):
        rows = ask(begin(1, 1, 1), work(5, 0, 1), work(5, 0, 1), work(1, 0, 1), fix(0, 99), after(0, 1, 5), after(1, 2))
        self.assertEqual(rows[4:], [[0], [0], [0]])

    def test_one_fixed_in_front_of_what_it_comes_after(self):
        self.assertEqual(last(begin(1, 1, 1), work(1), work(1), after(0, 1), fix(1, 0)), [-33])
        self.assertEqual(last(begin(1, 1, 1), work(1), work(1), fix(0, 5), after(0, 1), fix(1, 3)), [-33])
        self.assertEqual(last(begin(1, 1, 1), work(1), work(1), fix(0, 5), fix(1, 3), after(0, 1)), [-33])

    def test_a_gap_that_a_short_work_fits_into(self):
        site = [begin(1, 1, 1), work(2, 0, 1), work(2, 0, 1), work(1, 0, 1), fix(0, 0), fix(1, 3), after(2, 1)]
        self.assertEqual(last(*site), [0])
        self.assertEqual(last(*site, longer(2, 1)), [-33])

    def test_a_gap_between_works_that_wait(self):
        site = [begin(1, 1, 1), work(1, 0, 1), work(1, 0, 1), work(2, 0, 1), work(1), after(0, 1, 2), after(1, 3),
                after(2, 3)]
        self.assertEqual(last(*site, fix(3, 4)), [0])
        self.assertEqual(last(*site, longer(2, 1), fix(3, 4)), [-33])
        self.assertEqual(last(*site, fix(3, 3)), [-33])


class OrdersOfPlacing(unittest.TestCase):
    def test_the_later_number_must_go_first(self):
        rows = ask(begin(1, 1, 1), work(5, 0, 1), work(1, 0, 1), work(1, 1, 1), after(1, 2), fix(2, 1))
        self.assertEqual(rows[5], [0])

    def test_a_work_that_must_give_way_to_a_chain(self):
        chain = [after(1, 2, 3), after(2, 3), after(0, 3)]
        site = [begin(2, 1, 1), work(3, 0, 1), work(2, 0, 2), work(1, 1, 1), work(1), *chain]
        self.assertEqual(last(*site, fix(3, 6)), [0])
        self.assertEqual(last(*site, fix(3, 5)), [-33])

    def test_five_in_front_of_a_fixed_one(self):
        five = [work(days, 0, 1) for days in (1, 2, 3, 4, 5)]
        site = [begin(1, 1, 1), work(1), *five, *[after(k, 0) for k in range(1, 6)]]
        self.assertEqual(last(*site, fix(0, 15)), [0])
        self.assertEqual(last(*site, fix(0, 14)), [-33])
        self.assertEqual(last(*site, crew(0, 2), fix(0, 8)), [0])
        self.assertEqual(last(*site, crew(0, 2), fix(0, 7)), [-33])


class PlainSite:
    """The ten calls over again, with a search that tries every day of every work."""

    def __init__(self):
        self.crews = None
        self.works = []
        self.fixed = {}
        self.waits = {}

    def answer(self, call):
        name = ("begin", "work", "after", "unafter", "crew", "longer", "fix", "unfix", "early", "late")[call[0]]
        if name != "begin" and self.crews is None:
            return [-11]
        return getattr(self, name)(*call[1:])

    def keep_if_some_plan_holds(self, answer, crews=None, works=None, fixed=None, waits=None):
        trial = PlainSite()
        trial.crews = self.crews if crews is None else crews
        trial.works = self.works if works is None else works
        trial.fixed = self.fixed if fixed is None else fixed
        trial.waits = self.waits if waits is None else waits
        if not trial.search({}):
            return [-33]
        self.__dict__ = trial.__dict__
        return [answer]

    def search(self, starts):
        if len(starts) == len(self.works):
            return True
        number = next(k for k in self.narrowest_first() if k not in starts)
        horizon = max(self.fixed.values(), default=0) + sum(days for days, *_ in self.works) + 5 * len(self.waits) + 1
        for day in [self.fixed[number]] if number in self.fixed else range(horizon):
            more = {**starts, number: day}
            if self.holds(more) and self.search(more):
                return True
        return False

    def narrowest_first(self):
        bound = set(self.fixed)
        for _ in self.works:
            bound |= {a for a, b in self.waits if b in bound}
        return sorted(range(len(self.works)), key=lambda k: (k not in self.fixed, k not in bound))

    def holds(self, starts):
        for (a, b), wait in self.waits.items():
            if a in starts and b in starts and starts[b] < starts[a] + self.works[a][0] + wait:
                return False
        for day in {starts[k] + i for k in starts for i in range(self.works[k][0])}:
            busy = [self.works[k] for k in starts if starts[k] <= day < starts[k] + self.works[k][0]]
            if sum(crane for *_, crane in busy) > 1:
                return False
            for kind in range(3):
                if sum(persons for _, its, persons, _ in busy if its == kind) > self.crews[kind]:
                    return False
        return True

    def begin(self, *crews):
        if max(crews) > 9:
            return [-22]
        self.__init__()
        self.crews = list(crews)
        return [0]

    def work(self, days, kind, persons, crane):
        if not 1 <= days <= 5 or kind > 2 or persons > 9 or crane > 1:
            return [-22]
        if len(self.works) == 6:
            return [-28]
        return self.keep_if_some_plan_holds(len(self.works), works=self.works + [(days, kind, persons, crane)])

    def after(self, a, b, wait):
        if max(a, b) >= len(self.works):
            return [-2]
        if wait > 5:
            return [-22]
        if (a, b) in self.waits:
            return [-17]
        behind = {b}
        for _ in self.works:
            behind |= {d for c, d in self.waits if c in behind}
        if a in behind:
            return [-61]
        return self.keep_if_some_plan_holds(0, waits={**self.waits, (a, b): wait})

    def unafter(self, a, b):
        if max(a, b) >= len(self.works):
            return [-2]
        return [-6] if self.waits.pop((a, b), None) is None else [0]

    def crew(self, kind, n):
        if kind > 2 or n > 9:
            return [-22]
        crews = list(self.crews)
        crews[kind] = n
        return self.keep_if_some_plan_holds(self.crews[kind], crews=crews)

    def longer(self, a, n):
        if a >= len(self.works):
            return [-2]
        days, *others = self.works[a]
        if n == 0 or days + n > 5:
            return [-22]
        works = list(self.works)
        works[a] = (days + n, *others)
        return self.keep_if_some_plan_holds(days + n, works=works)

    def fix(self, a, d):
        if a >= len(self.works):
            return [-2]
        if d > 99:
            return [-22]
        return self.keep_if_some_plan_holds(0, fixed={**self.fixed, a: d})

    def unfix(self, a):
        if a >= len(self.works):
            return [-2]
        return [-6] if self.fixed.pop(a, None) is None else [0]

    def days_without_crews(self):
        days = [0] * len(self.works)
        for _ in self.works:
            for (a, b), wait in self.waits.items():
                days[b] = max(days[b], days[a] + self.works[a][0] + wait)
        return days

    def early(self):
        return [len(self.works)] + self.days_without_crews()

    def late(self, e):
        if e > 99:
            return [-22]
        if e < max([day + row[0] for day, row in zip(self.days_without_crews(), self.works)], default=0):
            return [-33]
        days = [e - row[0] for row in self.works]
        for _ in self.works:
            for (a, b), wait in self.waits.items():
                days[a] = min(days[a], days[b] - wait - self.works[a][0])
        return [len(self.works)] + days


def some_call(source, most_works, last_day):
    a, b = source.randrange(most_works + 1), source.randrange(most_works)
    return source.choice([
        work(source.randrange(1, 4), source.randrange(2), source.randrange(4), source.randrange(2)),
        after(a, b, source.choice((0, 0, 1, 2, 6))), after(b, (a + b) % most_works, source.randrange(2)),
        after(min(a, b), max(a, b), source.randrange(3)), unafter(a, b), crew(source.randrange(3), source.randrange(5)),
        longer(a, source.randrange(3)), fix(a, source.randrange(last_day)), fix(b, source.randrange(last_day)),
        unfix(a), early(), late(source.randrange(30)),
    ])


def some_line(source, most_works, last_day):
    works = [work(source.randrange(1, 4), source.randrange(2), source.randrange(3), source.randrange(2))
             for _ in range(most_works - 1)]
    calls = [some_call(source, most_works, last_day) for _ in range(30)]
    counted = [call for call in calls if call[0] != 1]
    return [begin(3, 2, 4), *works, *counted, work(1), work(1), early(), late(99)]


class AgainstAPlainSearch(unittest.TestCase):
    def compare(self, seed, most_works, last_day):
        line = some_line(random.Random(seed), most_works, last_day)
        plain = PlainSite()
        self.assertEqual(ask(*line), [plain.answer(call) for call in line], (seed, line))

    def test_few_works(self):
        for seed in range(400):
            self.compare(seed, 3, 7)

    def test_some_works(self):
        for seed in range(150):
            self.compare(seed, 5, 10)


if __name__ == "__main__":
    unittest.main()
