"""Where -33 is answered and where it isn't: the document's corners, and all sorts of sites against a plain search."""

import random
import unittest

from helper import (PlainSite, after, ask, begin, crew, early, fix, last, late, longer, unafter, unfix, work)


class Corners(unittest.TestCase):
    def test_a_wait_behind_a_fixed_work(self):
        site = [begin(1, 1, 1), work(2), work(1), after(0, 1, 5), fix(0, 10)]
        self.assertEqual(last(*site, fix(1, 16)), [-33])
        self.assertEqual(last(*site, fix(1, 17)), [0])

    def test_a_wait_behind_a_work_behind_a_fixed_one(self):
        site = [begin(1, 1, 1), work(2), work(3), work(1), after(0, 1, 5), after(1, 2, 1), fix(0, 10)]
        self.assertEqual(last(*site, fix(2, 20)), [-33])
        self.assertEqual(last(*site, fix(2, 21)), [0])

    def test_a_work_without_persons(self):
        self.assertEqual(ask(begin(0, 0, 0), work(1, 0, 0), work(1, 0, 1))[1:], [[0], [-33]])
        rows = ask(begin(1, 0, 0), work(5, 0, 1), work(5, 0, 0), fix(0, 0), fix(1, 0), crew(0, 0))
        self.assertEqual(rows[3:], [[0], [0], [-33]])

    def test_two_that_want_the_crane(self):
        site = [begin(9, 9, 9), work(2, 0, 1, 1), work(2, 1, 1, 1), fix(0, 4)]
        asked = [(2, 0), (3, -33), (4, -33), (5, -33), (6, 0)]
        for d, answer in asked:
            self.assertEqual(last(*site, fix(1, d)), [answer], d)

    def test_one_that_wants_the_crane_beside_one_that_does_not(self):
        self.assertEqual(last(begin(9, 9, 9), work(2, 0, 1, 1), work(2, 0, 1, 0), fix(0, 4), fix(1, 4)), [0])

    def test_two_that_want_the_crane_in_front_of_a_fixed_one(self):
        site = [begin(9, 9, 9), work(2, 0, 0, 1), work(3, 1, 0, 1), work(1), after(0, 2), after(1, 2)]
        self.assertEqual(last(*site, fix(2, 4)), [-33])
        self.assertEqual(last(*site, fix(2, 5)), [0])

    def test_a_crew_of_0(self):
        rows = ask(begin(0, 5, 0), work(1, 1, 5), crew(1, 0), work(1, 0, 1), work(1, 2, 0), crew(2, 0))
        self.assertEqual(rows[1:], [[0], [-33], [-33], [1], [0]])

    def test_a_work_fixed_so_late_that_all_others_are_done(self):
        rows = ask(begin(1, 1, 1), work(5, 0, 1, 1), work(5, 0, 1, 1), work(5, 0, 1, 1), after(1, 0), after(2, 0),
                   fix(0, 99), fix(0, 10), fix(0, 9), early())
        self.assertEqual(rows[6:], [[0], [0], [-33], [3, 5, 0, 0]])

    def test_others_go_behind_a_work_fixed_late(self):
        rows = ask(begin(1, 1, 1), work(5, 0, 1), work(5, 0, 1), work(1, 0, 1), fix(0, 99), after(0, 1, 5), after(1, 2))
        self.assertEqual(rows[4:], [[0], [0], [0]])

    def test_one_fixed_in_front_of_what_it_comes_after(self):
        self.assertEqual(last(begin(1, 1, 1), work(1), work(1), after(0, 1), fix(1, 0)), [-33])
        self.assertEqual(last(begin(1, 1, 1), work(1), work(1), fix(0, 5), after(0, 1), fix(1, 3)), [-33])
        self.assertEqual(last(begin(1, 1, 1), work(1), work(1), fix(0, 5), fix(1, 3), after(0, 1)), [-33])

    def test_a_gap_that_a_short_work_fits_into(self):
        site = [begin(1, 1, 1), work(2, 0, 1), work(2, 0, 1), work(1, 0, 1), fix(0, 0), fix(1, 3), after(2, 1)]
        self.assertEqual(last(*site), [0])
        self.assertEqual(last(*site, longer(2, 1)), [-33])

    def test_a_gap_between_works_that_wait(self):
        site = [begin(1, 1, 1), work(1, 0, 1), work(1, 0, 1), work(2, 0, 1), work(1), after(0, 1, 2), after(1, 3),
                after(2, 3)]
        self.assertEqual(last(*site, fix(3, 4)), [0])
        self.assertEqual(last(*site, longer(2, 1), fix(3, 4)), [-33])
        self.assertEqual(last(*site, fix(3, 3)), [-33])


class OrdersOfPlacing(unittest.TestCase):
    def test_the_later_number_must_go_first(self):
        rows = ask(begin(1, 1, 1), work(5, 0, 1), work(1, 0, 1), work(1, 1, 1), after(1, 2), fix(2, 1))
        self.assertEqual(rows[5], [0])

    def test_a_work_that_must_give_way_to_a_chain(self):
        chain = [after(1, 2, 3), after(2, 3), after(0, 3)]
        site = [begin(2, 1, 1), work(3, 0, 1), work(2, 0, 2), work(1, 1, 1), work(1), *chain]
        self.assertEqual(last(*site, fix(3, 6)), [0])
        self.assertEqual(last(*site, fix(3, 5)), [-33])

    def test_five_in_front_of_a_fixed_one(self):
        five = [work(days, 0, 1) for days in (1, 2, 3, 4, 5)]
        site = [begin(1, 1, 1), work(1), *five, *[after(k, 0) for k in range(1, 6)]]
        self.assertEqual(last(*site, fix(0, 15)), [0])
        self.assertEqual(last(*site, fix(0, 14)), [-33])
        self.assertEqual(last(*site, crew(0, 2), fix(0, 8)), [0])
        self.assertEqual(last(*site, crew(0, 2), fix(0, 7)), [-33])


def some_call(source, most_works, last_day):
    a, b = source.randrange(most_works + 1), source.randrange(most_works)
    return source.choice([
        work(source.randrange(1, 4), source.randrange(2), source.randrange(4), source.randrange(2)),
        after(a, b, source.choice((0, 0, 1, 2, 6))), after(b, (a + b) % most_works, source.randrange(2)),
        after(min(a, b), max(a, b), source.randrange(3)), unafter(a, b), crew(source.randrange(3), source.randrange(5)),
        longer(a, source.randrange(3)), fix(a, source.randrange(last_day)), fix(b, source.randrange(last_day)),
        unfix(a), early(), late(source.randrange(30)),
    ])


def some_line(source, most_works, last_day):
    works = [work(source.randrange(1, 4), source.randrange(2), source.randrange(3), source.randrange(2))
             for _ in range(most_works - 1)]
    calls = [some_call(source, most_works, last_day) for _ in range(30)]
    counted = [call for call in calls if call[0] != 1]
    return [begin(3, 2, 4), *works, *counted, work(1), work(1), early(), late(99)]


class AgainstAPlainSearch(unittest.TestCase):
    def compare(self, seed, most_works, last_day):
        line = some_line(random.Random(seed), most_works, last_day)
        plain = PlainSite()
        self.assertEqual(ask(*line), [plain.answer(call) for call in line], (seed, line))

    def test_few_works(self):
        for seed in range(400):
            self.compare(seed, 3, 7)

    def test_some_works(self):
        for seed in range(150):
            self.compare(seed, 5, 10)


if __name__ == "__main__":
    unittest.main()
