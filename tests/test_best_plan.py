"""The best plan and what is told by it: against a plain search over every plan, what holds, corners, long lines."""

import random
import unittest

from crewscrane.sites import answers
from helper import (HUGE, PlainSite, after, ask, begin, behind, crew, day, early, enough, fix, last, late, line_of,
                    longer, look, plan, shortest, slack, span, state, unafter, unfix, use, work)

KINDS = (0, 1, 2)


def some_site(source, count, most_days, last_day):
    """Build a site whose crews are often short, with works that want the crane, waits, and works that are fixed."""
    crews = [source.randrange(1, 6) for _ in KINDS]
    calls = [begin(*crews)]
    kinds = source.choice(((0,), (0, 1), KINDS))
    for _ in range(count):
        kind = source.choice(kinds)
        calls.append(work(source.randint(1, most_days), kind, source.randint(0, crews[kind]), source.randrange(2)))
    for _ in range(source.randrange(count)):
        a, b = source.randrange(count), source.randrange(count)
        calls.append(after(min(a, b), max(a, b), source.choice((0, 0, 1, 2))))
    for _ in range(source.choice((0, 0, 1, 2))):
        calls.append(fix(source.randrange(count), source.randrange(last_day)))
    return calls


def plain_of(calls):
    site = PlainSite()
    for call in calls:
        site.answer(call)
    return site


def all_questions(count, end):
    days = [day(d) for d in (*range(end + 2), HUGE)]
    kinds = [call(kind) for call in (use, enough) for kind in (*KINDS, 3)]
    works = [call(a) for call in (behind, look) for a in range(count + 1)]
    return [slack(), span(), shortest(), plan(), *days, *kinds, *works, state()]


class AgainstEveryPlan(unittest.TestCase):
    def compare(self, seed, count, most_days, last_day):
        calls = some_site(random.Random(seed), count, most_days, last_day)
        site = plain_of(calls)
        questions = all_questions(count, site.shortest()[0])
        self.assertLessEqual(len(calls) + len(questions), 60)
        told = ask(*calls, *questions)[len(calls):]
        for question, answer in zip(questions, told):
            self.assertEqual(answer, site.answer(question), (seed, calls, question))

    def test_two_works(self):
        for seed in range(150):
            self.compare(seed, 2, 5, 8)

    def test_three_works(self):
        for seed in range(150):
            self.compare(seed, 3, 3, 8)

    def test_four_works(self):
        for seed in range(80):
            self.compare(seed, 4, 2, 6)

    def test_five_and_six_works(self):
        for seed in range(30):
            self.compare(seed, 5, 2, 5)
            self.compare(seed, 6, 1, 4)


    def test_works_fixed_late(self):
        for seed in range(40):
            calls = some_site(random.Random(seed), 3, 4, 10)
            for d in (12, 30, 99):
                site = [*calls, fix(seed % 3, d)]
                plain = plain_of(site)
                questions = [shortest(), plan(), use(0), enough(0), day(d), day(d - 1), day(d + 4)]
                self.assertEqual(ask(*site, *questions)[len(site):], [plain.answer(call) for call in questions],
                                 (seed, site))


def some_call(source, count):
    a, b, kind = source.randrange(count), source.randrange(count), source.choice(KINDS)
    return source.choice((
        after(a, b, source.randrange(3)), after(min(a, b), max(a, b), source.randrange(2)), unafter(a, b),
        crew(kind, source.randrange(7)), crew(kind, source.randrange(4)), longer(a, 1), fix(a, source.randrange(9)),
        unfix(a), unfix(b), work(1, kind, source.randrange(4), source.randrange(2)),
    ))


class AgainstEveryPlanWhileTheSiteChanges(unittest.TestCase):
    def compare(self, seed, count):
        source = random.Random(seed)
        line = [begin(3, 2, 4)]
        for _ in range(count - 1):
            line.append(work(source.randint(1, 2), source.randrange(2), source.randrange(3), source.randrange(2)))
        while len(line) < 56:
            line += [some_call(source, count), shortest(), plan(), source.choice((enough, use))(source.randrange(3)),
                     source.choice((day, look, behind))(source.randrange(count)), slack()]
        site = PlainSite()
        self.assertEqual(ask(*line), [site.answer(call) for call in line], (seed, line))

    def test_three_works(self):
        for seed in range(80):
            self.compare(seed, 3)

    def test_four_works(self):
        for seed in range(20):
            self.compare(seed, 4)


class OfPlansWithOneEnd(unittest.TestCase):
    def test_work_0_begins_earliest(self):
        self.assertEqual(last(begin(0, 0, 0), work(3, 0, 0, 1), work(1, 0, 0, 1), plan()), [2, 0, 3])
        self.assertEqual(last(begin(0, 0, 0), work(1, 0, 0, 1), work(3, 0, 0, 1), plan()), [2, 0, 1])

    def test_then_work_1_and_so_on(self):
        works = [work(days, 0, 1) for days in (2, 5, 1, 4, 3, 1)]
        self.assertEqual(last(begin(1, 0, 0), *works, plan()), [6, 0, 2, 7, 8, 12, 15])

    def test_work_0_begins_earliest_though_all_others_wait_for_it(self):
        works = [work(5, 0, 1), work(1, 0, 1), work(1, 0, 1), work(1, 0, 1)]
        self.assertEqual(last(begin(1, 0, 0), work(1), fix(0, 50), *works, plan()), [5, 50, 0, 5, 6, 7])

    def test_to_end_first_goes_ahead_of_where_work_0_begins(self):
        site = [begin(0, 0, 0), work(1, 0, 0, 1), work(1, 0, 0, 1), work(5), after(1, 2)]
        self.assertEqual(ask(*site, plan(), shortest())[-2:], [[3, 1, 0, 1], [6]])

    def test_work_1_gives_way_to_work_2_only_for_the_end(self):
        site = [begin(2, 0, 0), work(5, 1, 0), work(2, 0, 2), work(2, 0, 1), work(2, 0, 1)]
        self.assertEqual(last(*site, plan()), [4, 0, 0, 2, 2])
        self.assertEqual(last(*site, work(1), after(2, 4), plan()), [5, 0, 0, 2, 2, 4])
        self.assertEqual(last(*site, work(2), after(2, 4), plan()), [5, 0, 2, 0, 0, 2])

    def test_hands_that_are_all_at_work_on_all_days(self):
        site = [begin(2, 0, 0), work(1, 0, 1), work(1, 0, 1), work(2, 0, 1)]
        self.assertEqual(last(*site, plan()), [3, 0, 1, 0])
        self.assertEqual(last(*site, fix(2, 1), plan()), [3, 0, 0, 1])

    def test_works_later_than_they_could_be_alone_are_moved_forward(self):
        site = [begin(1, 1, 1), work(1, 0, 1), work(1, 1, 1), work(1, 2, 1), work(4), fix(0, 20)]
        self.assertEqual(last(*site, plan()), [4, 20, 0, 0, 0])


class WhatHolds(unittest.TestCase):
    def each_site(self, count=120):
        for seed in range(count):
            source = random.Random(seed)
            yield some_site(source, source.randint(1, 6), source.randint(1, 5), 20)

    def test_the_best_plan_holds_and_ends_when_it_is_told(self):
        for site in self.each_site():
            days, end = ask(*site, plan(), shortest())[-2:]
            plain = PlainSite()
            rows = ask(*site, state(), *[look(a) for a in range(days[0])])[len(site):]
            plain.crews = rows[0][1:]
            plain.works = [tuple(row[:4]) for row in rows[1:]]
            plain.waits = {(row[k], b): row[k + 1] for b, row in enumerate(rows[1:]) for k in range(6, len(row), 2)}
            self.assertTrue(plain.holds(dict(enumerate(days[1:]))), site)
            self.assertEqual(end, [max(start + row[0] for start, row in zip(days[1:], rows[1:]))])
            for start, row in zip(days[1:], rows[1:]):
                self.assertIn(row[4], (0, start + 1), site)

    def test_no_plan_that_holds_ends_before_the_best_one(self):
        for seed in range(60):
            site = some_site(random.Random(seed), 4, 2, 6)
            self.assertIsNone(plain_of(site).first_plan(last(*site, shortest())[0] - 1), site)

    def test_more_hands_never_take_longer(self):
        for site in self.each_site(60):
            for kind in KINDS:
                ends = [ask(*site, crew(kind, n), shortest())[-2:] for n in range(10)]
                ends = [end[0] for refusal, end in ends if refusal[0] >= 0]
                self.assertEqual(ends, sorted(ends, reverse=True), (site, kind))

    def test_none_begins_before_its_earliest_day(self):
        for site in self.each_site():
            days, first = ask(*site, plan(), early())[-2:]
            self.assertEqual(days[0], first[0])
            self.assertTrue(all(a >= b for a, b in zip(days, first)), site)

    def test_all_ends_with_the_span_at_the_earliest(self):
        for site in self.each_site():
            end, least = ask(*site, shortest(), span())[-2:]
            self.assertGreaterEqual(end, least, site)

    def test_as_much_longer_as_it_has_slack_leaves_the_span(self):
        tried = 0
        for seed in range(200):
            source = random.Random(seed)
            site = [begin(9, 9, 9), *[work(source.randint(1, 5)) for _ in range(6)]]
            for _ in range(source.randrange(8)):
                a, b = source.sample(range(6), 2)
                site.append(after(a, b, source.randrange(4)))
            least, room = ask(*site, span(), slack())[-2:]
            for a in range(6):
                n = room[a + 1]
                if n > 0 and last(*site, longer(a, n))[0] > 0:
                    self.assertEqual(last(*site, longer(a, n), span()), least, (site, a))
                    tried += 1
                if last(*site, longer(a, n + 1))[0] > 0:
                    self.assertEqual(last(*site, longer(a, n + 1), span()), [least[0] + 1], (site, a))
                    tried += 1
        self.assertGreater(tried, 500)

    def test_with_fewer_than_are_enough_it_takes_longer_or_cannot_be(self):
        longer_ones = refused = 0
        for site in self.each_site(100):
            for kind in KINDS:
                least = last(*site, enough(kind))[0]
                if not 0 < least <= 9:
                    continue
                end = last(*site, crew(kind, least), shortest())
                self.assertEqual(last(*site, crew(kind, 9), shortest()), end, (site, kind))
                for n in range(least):
                    rows = ask(*site, crew(kind, n), shortest())[-2:]
                    if rows[0] == [-33]:
                        refused += 1
                    else:
                        self.assertGreater(rows[1], end, (site, kind, n))
                        longer_ones += 1
        self.assertGreater(longer_ones, 20)
        self.assertGreater(refused, 20)

    def test_the_use_is_no_more_than_the_crew_has(self):
        for site in self.each_site():
            rows = ask(*site, state(), use(0), use(1), use(2))[-4:]
            for kind in KINDS:
                self.assertLessEqual(rows[1 + kind][0], rows[0][1 + kind], site)


class Corners(unittest.TestCase):
    def test_a_wait_behind_a_fixed_work(self):
        site = [begin(1, 1, 1), work(2), work(1), after(0, 1, 5), fix(0, 10)]
        self.assertEqual(ask(*site, plan(), shortest(), span(), day(12), day(17))[-5:],
                         [[2, 10, 17], [18], [8], [0], [1, 1]])

    def test_a_wait_behind_a_fixed_work_leaves_others_where_they_are(self):
        site = [begin(1, 0, 0), work(2, 0, 1), work(1, 0, 1), work(3, 0, 1), after(0, 1, 3), fix(0, 1)]
        self.assertEqual(last(*site, plan()), [3, 1, 6, 3])

    def test_a_work_without_persons(self):
        site = [begin(0, 1, 0), work(3, 0, 0), work(3, 1, 1), work(3, 1, 0)]
        self.assertEqual(ask(*site, plan(), use(0), use(1), enough(0), enough(1))[-5:],
                         [[3, 0, 0, 0], [0], [1], [0], [1]])

    def test_a_work_without_persons_may_want_the_crane(self):
        site = [begin(0, 0, 0), work(3, 0, 0, 1), work(2, 1, 0, 1), work(1, 2, 0, 0)]
        self.assertEqual(ask(*site, plan(), enough(0), enough(1))[-3:], [[3, 0, 3, 0], [0], [0]])

    def test_two_that_want_the_crane(self):
        site = [begin(9, 9, 9), work(2, 0, 1, 1), work(3, 1, 1, 1)]
        self.assertEqual(ask(*site, plan(), shortest(), span(), enough(0))[-4:], [[2, 0, 2], [5], [3], [1]])

    def test_two_that_want_the_crane_round_a_fixed_one(self):
        site = [begin(0, 0, 0), work(2, 0, 0, 1), work(3, 0, 0, 1), work(1, 0, 0, 1), fix(2, 3)]
        self.assertEqual(ask(*site, plan(), shortest())[-2:], [[3, 4, 0, 3], [6]])

    def test_a_crew_of_0(self):
        site = [begin(0, 2, 0), work(2, 1, 2), crew(1, 0), work(1, 0, 1), work(1, 0, 0)]
        self.assertEqual(ask(*site, plan(), enough(0), enough(1), state())[2:],
                         [[-33], [-33], [1], [2, 0, 0], [0], [2], [2, 0, 2, 0]])

    def test_a_work_fixed_so_late_that_all_others_are_done(self):
        site = [begin(1, 1, 1), work(5, 0, 1, 1), work(4, 0, 1), work(3, 0, 1), fix(0, 99)]
        self.assertEqual(ask(*site, plan(), shortest(), day(50), day(99), day(103), enough(0))[-6:],
                         [[3, 99, 0, 4], [104], [0], [1, 0], [1, 0], [1]])

    def test_works_behind_one_that_is_fixed_late(self):
        chain = [after(k, k + 1, 5) for k in range(5)]
        site = [begin(0, 0, 0), *[work(5)] * 6, *chain, fix(0, 99)]
        self.assertEqual(ask(*site, plan(), shortest())[-2:], [[6, 99, 109, 119, 129, 139, 149], [154]])

    def test_one_fixed_in_front_of_what_it_comes_after(self):
        site = [begin(1, 1, 1), work(2), work(1), after(0, 1), fix(1, 1)]
        self.assertEqual(ask(*site, plan(), look(1))[-3:], [[-33], [2, 0, 2], [1, 0, 0, 0, 0, 1, 0, 0]])

    def test_a_gap_that_a_short_work_fits_into(self):
        site = [begin(1, 1, 1), work(2, 0, 1), work(2, 0, 1), work(1, 0, 1), fix(0, 0), fix(1, 3)]
        self.assertEqual(ask(*site, plan(), shortest())[-2:], [[3, 0, 3, 2], [5]])
        self.assertEqual(ask(*site, longer(2, 1), plan(), shortest())[-2:], [[3, 0, 3, 5], [7]])

    def test_a_gap_left_by_a_wait(self):
        site = [begin(1, 1, 1), work(1, 0, 1), work(1, 0, 1), work(2, 0, 1), after(0, 1, 2)]
        self.assertEqual(last(*site, plan()), [3, 0, 3, 1])
        self.assertEqual(last(*site, longer(2, 1), plan()), [3, 0, 4, 1])

    def test_a_gap_that_only_the_crane_leaves(self):
        site = [begin(9, 9, 9), work(2, 0, 9, 1), work(2, 1, 9, 1), fix(0, 0), fix(1, 3), work(1, 2, 0, 1)]
        self.assertEqual(last(*site, plan()), [3, 0, 3, 2])
        self.assertEqual(last(*site, longer(2, 1), plan()), [3, 0, 3, 5])

    def test_on_no_day_too_many_where_three_overlap(self):
        site = [begin(5, 0, 0), work(2, 0, 2), work(4, 0, 2), work(2, 0, 2), fix(0, 0), fix(1, 1)]
        self.assertEqual(last(*site, plan()), [3, 0, 1, 2])
        self.assertEqual(last(*site, crew(0, 6), plan()), [3, 0, 1, 0])


class LongLines(unittest.TestCase):
    def test_six_that_want_all_hands(self):
        works = [work(days, 1, 9) for days in (5, 4, 3, 2, 1, 5)]
        asked = [plan(), shortest(), enough(0), enough(1), enough(2)] * 10
        told = [[6, 0, 5, 9, 12, 14, 15], [20], [0], [36], [0]] * 10
        self.assertEqual(ask(begin(9, 9, 9), *works, *asked)[7:], told)

    def test_six_that_want_the_crane(self):
        works = [work(days, days % 3, days + 3, 1) for days in (5, 4, 3, 2, 1, 5)]
        asked = [plan(), enough(0), enough(1), enough(2), use(2)] * 10
        told = [[6, 0, 5, 9, 12, 14, 15], [6], [7], [8], [8]] * 10
        self.assertEqual(ask(begin(9, 9, 9), *works, *asked)[7:], told)

    def test_six_with_a_change_ahead_of_each_question(self):
        line = [begin(9, 9, 9), *[work(2, 0, persons) for persons in (9, 8, 7, 6, 5, 4)]]
        told = [[0], [0], [1], [2], [3], [4], [5]]
        for d in range(10, 20):
            line += [fix(0, d), enough(0), plan(), unfix(0), enough(0)]
            told += [[0], [9], [6, d, 0, 2, 4, 6, 6], [0], [39]]
        self.assertEqual(ask(*line), told)

    def test_six_chained_and_asked_again_and_again(self):
        chain = [after(k, k + 1, k) for k in range(5)]
        site = [begin(9, 9, 9), *[work(k % 5 + 1, k % 3, 9 - k, 1) for k in range(6)], *chain]
        asked = [plan(), enough(0), enough(1), enough(2), slack(), shortest(), span(), day(6)] * 6
        told = [[6, 0, 1, 4, 9, 16, 25], [9], [8], [7], [6] + [0] * 6, [26], [26], [1, 2]] * 6
        self.assertEqual(ask(*site, *asked)[12:], told)

    def test_sixty_calls_of_every_sort_against_the_plain_site(self):
        for seed in range(4):
            site = some_site(random.Random(seed), 6, 1, 4)
            questions = all_questions(6, 0)
            line = (site + questions * 2)[:60]
            plain = PlainSite()
            self.assertEqual(ask(*line), [plain.answer(call) for call in line], (seed, line))

    def test_the_longest_list_that_is_handed_in(self):
        line = line_of([begin(9, 9, 9)] + [work(HUGE, HUGE, HUGE, HUGE)] * 59)
        self.assertEqual(answers(line), [1, 0] + [1, -22] * 59)


if __name__ == "__main__":
    unittest.main()
