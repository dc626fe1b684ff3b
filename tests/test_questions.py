"""The calls that ask and change nothing: slack, span, shortest, plan, day, use, enough, behind, look, state."""

import unittest

from helper import (HUGE, after, ask, begin, behind, crew, day, early, enough, fix, last, late, longer, look, plan,
                    shortest, slack, span, state, unafter, unfix, use, work)

# Without crews the works begin on 0, 3, 0, 6, 5 and 2, and all ends on 8. By the best plan they begin on 0, 3, 2, 6, 8
# and 8: work 2 finds too few hands beside work 0, work 4 too few beside work 3, and work 5 no crane before day 8.
HOUSE = [
    begin(4, 3, 2), work(2, 0, 3), work(3, 0, 2, 1), work(3, 0, 2), work(2, 1, 3, 1), work(1, 1, 1), work(2, 2, 0, 1),
    after(0, 1, 1), after(1, 3), after(2, 4, 2), after(0, 5),
]
NO_WORKS = [begin(4, 3, 2)]
ONE_WORK = [begin(4, 3, 2), work(3, 1, 2, 1)]
EMPTY = begin(0, 0, 0)


def answers_to(site, questions):
    return ask(*site, *questions)[len(site):]


class House(unittest.TestCase):
    def test_is_built_as_told(self):
        self.assertEqual(ask(*HOUSE), [[0], [0], [1], [2], [3], [4], [5], [0], [0], [0], [0]])


class Slack(unittest.TestCase):
    def test_no_works(self):
        self.assertEqual(last(*NO_WORKS, slack()), [0])

    def test_one_work(self):
        self.assertEqual(last(*ONE_WORK, slack()), [1, 0])

    def test_six_works(self):
        self.assertEqual(last(*HOUSE, slack()), [6, 0, 0, 2, 0, 2, 4])

    def test_is_told_without_crews_and_crane(self):
        self.assertEqual(last(begin(1, 1, 1), work(2, 0, 1, 1), work(5, 0, 1, 1), slack()), [2, 3, 0])

    def test_is_told_as_if_nothing_were_fixed(self):
        site = [EMPTY, work(2), work(1), work(4), after(0, 1)]
        self.assertEqual(last(*site, slack()), [3, 1, 1, 0])
        self.assertEqual(last(*site, fix(1, 50), slack()), [3, 1, 1, 0])
        self.assertEqual(last(*site, fix(0, 7), fix(2, 9), slack()), [3, 1, 1, 0])

    def test_a_wait_takes_slack(self):
        site = [EMPTY, work(1), work(1), work(5)]
        for wait in range(4):
            self.assertEqual(last(*site, after(0, 1, wait), slack()), [3, 3 - wait, 3 - wait, 0])
        self.assertEqual(last(*site, after(0, 1, 4), slack()), [3, 0, 0, 1])

    def test_the_tighter_of_two_that_come_after_it(self):
        site = [EMPTY, work(1), work(1), work(3), after(0, 1), after(0, 2), work(5), longer(2, 1)]
        self.assertEqual(last(*site, slack()), [4, 0, 3, 0, 0])
        self.assertEqual(last(*site, work(1), after(3, 4), slack()), [5, 1, 4, 1, 0, 0])


class Span(unittest.TestCase):
    def test_no_works(self):
        self.assertEqual(last(*NO_WORKS, span()), [0])

    def test_one_work(self):
        self.assertEqual(last(*ONE_WORK, span()), [3])

    def test_six_works(self):
        self.assertEqual(last(*HOUSE, span()), [8])

    def test_is_told_without_crews_and_crane(self):
        self.assertEqual(answers_to([begin(1, 1, 1), work(2, 0, 1, 1), work(5, 0, 1, 1)], [span(), shortest()]),
                         [[5], [7]])

    def test_is_told_as_if_nothing_were_fixed(self):
        self.assertEqual(last(EMPTY, work(2), fix(0, 99), span()), [2])

    def test_the_longest_line_that_there_is(self):
        site = [EMPTY, *[work(5)] * 6, *[after(k, k + 1, 5) for k in range(5)]]
        self.assertEqual(answers_to(site, [span(), slack(), shortest()]), [[55], [6] + [0] * 6, [55]])

    def test_changes_with_the_works(self):
        rows = ask(EMPTY, work(2), span(), work(3), span(), after(0, 1, 4), span(), longer(1, 2), span(),
                   unafter(0, 1), span(), begin(1, 1, 1), span())
        self.assertEqual([rows[k] for k in (2, 4, 6, 8, 10, 12)], [[2], [3], [9], [11], [5], [0]])


class Shortest(unittest.TestCase):
    def test_no_works(self):
        self.assertEqual(last(*NO_WORKS, shortest()), [0])

    def test_one_work(self):
        self.assertEqual(last(*ONE_WORK, shortest()), [3])

    def test_six_works(self):
        self.assertEqual(last(*HOUSE, shortest()), [10])

    def test_one_fixed_work(self):
        for d in (0, 7, 99):
            self.assertEqual(last(*ONE_WORK, fix(0, d), shortest()), [d + 3])

    def test_ends_with_the_greatest_end_not_with_the_last_work(self):
        self.assertEqual(last(EMPTY, work(5), work(1), after(0, 1), fix(0, 3), work(2), fix(2, 20), shortest()), [22])
        self.assertEqual(last(EMPTY, work(5), work(1), fix(1, 3), shortest()), [5])

    def test_changes_with_every_change(self):
        rows = ask(begin(2, 0, 0), work(2, 0, 1), work(3, 0, 1), shortest(), crew(0, 1), shortest(), crew(0, 2),
                   shortest(), after(0, 1, 4), shortest(), longer(0, 1), shortest(), fix(1, 20), shortest(), unfix(1),
                   shortest(), unafter(0, 1), shortest(), begin(0, 0, 0), shortest())
        self.assertEqual(rows[3::2], [[3], [5], [3], [9], [10], [23], [10], [3], [0]])


class Plan(unittest.TestCase):
    def test_no_works(self):
        self.assertEqual(last(*NO_WORKS, plan()), [0])

    def test_one_work(self):
        self.assertEqual(last(*ONE_WORK, plan()), [1, 0])

    def test_six_works(self):
        self.assertEqual(last(*HOUSE, plan()), [6, 0, 3, 2, 6, 8, 8])

    def test_one_fixed_work(self):
        for d in (0, 7, 99):
            self.assertEqual(last(*ONE_WORK, fix(0, d), plan()), [1, d])

    def test_changes_with_every_change(self):
        rows = ask(begin(2, 0, 0), work(2, 0, 1), work(3, 0, 1), plan(), crew(0, 1), plan(), crew(0, 2), plan(),
                   after(1, 0, 4), plan(), longer(1, 1), plan(), fix(0, 20), plan(), unfix(0), plan(), unafter(1, 0),
                   plan(), begin(0, 0, 0), plan())
        self.assertEqual(rows[3::2], [[2, 0, 0], [2, 0, 2], [2, 0, 0], [2, 7, 0], [2, 8, 0], [2, 20, 0], [2, 8, 0],
                                      [2, 0, 0], [0]])

    def test_a_refused_change_leaves_it(self):
        site = [begin(3, 3, 3), work(2, 0, 2), work(1, 0, 2, 1), work(1, 1, 3), after(1, 2, 1), fix(1, 4)]
        refused = [work(0), work(1, 0, 4), after(0, 1, 6), after(2, 1), after(0, 0), after(0, 3), after(1, 2),
                   crew(0, 1), crew(3, 1), longer(0, 0), longer(3, 1), fix(2, 5), fix(0, 100), unfix(0), unafter(0, 1),
                   begin(10, 0, 0)]
        for call in refused:
            told, days, end = answers_to(site, [call, plan(), shortest()])
            self.assertLess(told[0], 0, call)
            self.assertEqual((days, end), ([3, 0, 4, 6], [7]), call)

    def test_asking_changes_nothing(self):
        questions = [early(), late(30), slack(), span(), shortest(), plan(), day(3), use(0), enough(0), enough(1),
                     enough(2), behind(0), look(1), state()]
        told = answers_to(HOUSE, questions * 3)
        self.assertEqual(told, told[:len(questions)] * 3)


class Day(unittest.TestCase):
    def test_no_works(self):
        for d in (0, 1, HUGE):
            self.assertEqual(last(*NO_WORKS, day(d)), [0])

    def test_one_work(self):
        told = [last(*ONE_WORK, fix(0, 2), day(d)) for d in range(7)]
        self.assertEqual(told, [[0], [0], [1, 0], [1, 0], [1, 0], [0], [0]])

    def test_six_works(self):
        told = answers_to(HOUSE, [day(d) for d in range(12)])
        self.assertEqual(told, [[1, 0], [1, 0], [1, 2], [2, 1, 2], [2, 1, 2], [1, 1], [1, 3], [1, 3], [2, 4, 5], [1, 5],
                                [0], [0]])

    def test_all_six_on_one_day_rising(self):
        site = [EMPTY, *[work(6 - k) for k in range(1, 6)], work(1)]
        self.assertEqual(last(*site, day(0)), [6, 0, 1, 2, 3, 4, 5])
        self.assertEqual(last(*site, day(1)), [4, 0, 1, 2, 3])

    def test_rising_by_number_not_by_day(self):
        self.assertEqual(last(EMPTY, work(1), work(5), work(5), fix(0, 4), fix(2, 1), day(4)), [3, 0, 1, 2])

    def test_between_the_works(self):
        told = answers_to([EMPTY, work(1), work(1), after(0, 1, 2)], [day(d) for d in range(5)])
        self.assertEqual(told, [[1, 0], [0], [0], [1, 1], [0]])

    def test_behind_the_works_as_far_as_days_are_asked_for(self):
        site = [EMPTY, work(5), fix(0, 99)]
        asked = [(98, [0]), (99, [1, 0]), (103, [1, 0]), (104, [0]), (HUGE - 1, [0]), (HUGE, [0])]
        for d, answer in asked:
            self.assertEqual(last(*site, day(d)), answer, d)
        self.assertEqual(last(*HOUSE, day(HUGE)), [0])


class Use(unittest.TestCase):
    def test_no_works(self):
        self.assertEqual(answers_to(NO_WORKS, [use(0), use(1), use(2)]), [[0], [0], [0]])

    def test_one_work(self):
        self.assertEqual(answers_to(ONE_WORK, [use(0), use(1), use(2)]), [[0], [2], [0]])

    def test_six_works(self):
        self.assertEqual(answers_to(HOUSE, [use(0), use(1), use(2)]), [[4], [3], [0]])

    def test_kind(self):
        for site in (NO_WORKS, ONE_WORK, HOUSE):
            for kind in (3, 4, HUGE):
                self.assertEqual(last(*site, use(kind)), [-22], kind)

    def test_the_most_on_one_day_not_the_sum(self):
        site = [begin(9, 9, 9), work(2, 2, 3), work(2, 2, 4), work(1, 2, 5)]
        self.assertEqual(last(*site, use(2)), [7])
        self.assertEqual(last(*site, fix(0, 1), fix(1, 0), use(2)), [9])
        self.assertEqual(last(*site, fix(0, 3), fix(1, 2), fix(2, 5), use(2)), [7])
        self.assertEqual(last(*site, fix(0, 3), fix(1, 1), fix(2, 5), use(2)), [5])

    def test_a_work_that_begins_on_the_day_another_ends_is_not_beside_it(self):
        self.assertEqual(last(begin(9, 9, 9), work(2, 0, 3), work(2, 0, 4), after(0, 1), use(0)), [4])

    def test_less_than_the_crew_has(self):
        self.assertEqual(answers_to([begin(9, 8, 7), work(1, 1, 3)], [use(0), use(1), use(2)]), [[0], [3], [0]])


class Enough(unittest.TestCase):
    def test_no_works(self):
        self.assertEqual(answers_to(NO_WORKS, [enough(0), enough(1), enough(2)]), [[0], [0], [0]])

    def test_one_work(self):
        self.assertEqual(answers_to(ONE_WORK, [enough(0), enough(1), enough(2)]), [[0], [2], [0]])

    def test_six_works(self):
        self.assertEqual(answers_to(HOUSE, [enough(0), enough(1), enough(2)]), [[5], [4], [0]])

    def test_kind(self):
        for site in (NO_WORKS, ONE_WORK, HOUSE):
            for kind in (3, 4, HUGE):
                self.assertEqual(last(*site, enough(kind)), [-22], kind)

    def test_none_where_no_work_needs_one(self):
        self.assertEqual(last(begin(5, 5, 5), work(2, 0, 0), work(3, 0, 0), enough(0)), [0])

    def test_more_than_the_crew_has(self):
        self.assertEqual(last(begin(3, 0, 0), work(2, 0, 3), work(2, 0, 2), enough(0)), [5])

    def test_less_than_the_crew_has(self):
        site = [begin(9, 0, 0), work(2, 0, 3), work(2, 0, 2), after(0, 1)]
        self.assertEqual(last(*site, enough(0)), [3])
        self.assertEqual(last(*site, crew(0, 3), enough(0)), [3])

    def test_above_9(self):
        for count in range(2, 7):
            site = [begin(9, 9, 9), *[work(2, 1, 9)] * count]
            self.assertEqual(answers_to(site, [enough(0), enough(1), enough(2)]), [[0], [9 * count], [0]])

    def test_just_above_9(self):
        self.assertEqual(last(begin(9, 9, 9), work(1, 0, 9), work(1, 0, 1), enough(0)), [10])
        self.assertEqual(last(begin(9, 9, 9), work(1, 0, 8), work(1, 0, 1), enough(0)), [9])

    def test_works_that_need_not_be_done_on_the_same_day(self):
        site = [begin(9, 9, 9), work(5, 1, 0), work(2, 0, 9), work(3, 0, 9), work(1, 0, 4)]
        self.assertEqual(last(*site, enough(0)), [13])
        self.assertEqual(last(begin(9, 9, 9), work(5, 1, 0), work(2, 0, 9), work(3, 0, 9), enough(0)), [9])

    def test_hands_do_not_help_where_the_crane_is_wanted(self):
        self.assertEqual(last(begin(9, 9, 9), work(2, 0, 9, 1), work(2, 0, 8, 1), work(1, 0, 7, 1), enough(0)), [9])

    def test_hands_do_not_help_where_another_crew_is_short(self):
        site = [begin(9, 1, 9), work(2, 0, 4), work(2, 1, 1), work(2, 1, 1), work(2, 0, 4)]
        self.assertEqual(answers_to(site, [enough(0), enough(1)]), [[4], [2]])

    def test_hands_do_not_help_where_a_work_is_fixed_late(self):
        site = [begin(9, 9, 9), work(1, 0, 2), fix(0, 50), *[work(5, 0, 9)] * 4]
        self.assertEqual(last(*site, enough(0)), [9])

    def test_fixed_works_need_their_hands_on_one_day(self):
        site = [begin(9, 9, 9), work(3, 2, 4), work(3, 2, 3), work(1, 2, 2), fix(0, 5), fix(1, 7)]
        self.assertEqual(last(*site, enough(2)), [7])
        self.assertEqual(last(*site, fix(2, 7), enough(2)), [9])

    def test_what_is_asked_leaves_the_crew(self):
        rows = ask(begin(3, 4, 5), work(2, 0, 3), work(2, 0, 2), enough(0), state(), plan(), crew(0, 9), plan())
        self.assertEqual(rows[3:], [[5], [2, 3, 4, 5], [2, 0, 2], [3], [2, 0, 0]])


class Behind(unittest.TestCase):
    def test_no_works(self):
        for a in (0, 1, HUGE):
            self.assertEqual(last(*NO_WORKS, behind(a)), [-2])

    def test_one_work(self):
        self.assertEqual(last(*ONE_WORK, behind(0)), [0])
        self.assertEqual(last(*ONE_WORK, behind(1)), [-2])

    def test_six_works(self):
        told = answers_to(HOUSE, [behind(a) for a in range(7)])
        self.assertEqual(told, [[3, 1, 3, 5], [1, 3], [1, 4], [0], [0], [0], [-2]])

    def test_a_chain_against_the_numbers(self):
        chain = [after(k + 1, k) for k in range(5)]
        told = answers_to([EMPTY, *[work(1)] * 6, *chain], [behind(a) for a in range(6)])
        self.assertEqual(told, [[0], [1, 0], [2, 0, 1], [3, 0, 1, 2], [4, 0, 1, 2, 3], [5, 0, 1, 2, 3, 4]])

    def test_one_that_comes_by_two_ways_is_told_once(self):
        site = [EMPTY, *[work(1)] * 4, after(0, 1), after(0, 2), after(1, 3), after(2, 3), after(0, 3)]
        self.assertEqual(last(*site, behind(0)), [3, 1, 2, 3])

    def test_not_any_more(self):
        site = [EMPTY, *[work(1)] * 3, after(0, 1), after(1, 2)]
        self.assertEqual(last(*site, unafter(0, 1), behind(0)), [0])
        self.assertEqual(last(*site, unafter(1, 2), behind(0)), [1, 1])

    def test_is_not_told_by_the_days(self):
        self.assertEqual(last(EMPTY, work(1), work(1), fix(0, 1), fix(1, 50), behind(0)), [0])


class Look(unittest.TestCase):
    def test_no_works(self):
        for a in (0, 1, HUGE):
            self.assertEqual(last(*NO_WORKS, look(a)), [-2])

    def test_one_work(self):
        self.assertEqual(last(*ONE_WORK, look(0)), [3, 1, 2, 1, 0, 0])
        self.assertEqual(last(*ONE_WORK, look(1)), [-2])

    def test_six_works(self):
        told = answers_to(HOUSE, [look(a) for a in range(7)])
        self.assertEqual(told, [[2, 0, 3, 0, 0, 0], [3, 0, 2, 1, 0, 1, 0, 1], [3, 0, 2, 0, 0, 0],
                                [2, 1, 3, 1, 0, 1, 1, 0], [1, 1, 1, 0, 0, 1, 2, 2], [2, 2, 0, 1, 0, 1, 0, 0], [-2]])

    def test_each_number_in_its_place(self):
        site = [begin(9, 9, 9), work(4, 2, 9, 0), work(1, 1, 0, 1)]
        self.assertEqual(answers_to(site, [look(0), look(1)]), [[4, 2, 9, 0, 0, 0], [1, 1, 0, 1, 0, 0]])

    def test_the_fixed_day_and_one_more(self):
        for d in (0, 1, 42, 99):
            self.assertEqual(last(*ONE_WORK, fix(0, d), look(0)), [3, 1, 2, 1, d + 1, 0])
        self.assertEqual(last(*ONE_WORK, fix(0, 9), fix(0, 5), look(0)), [3, 1, 2, 1, 6, 0])
        self.assertEqual(last(*ONE_WORK, fix(0, 9), unfix(0), look(0)), [3, 1, 2, 1, 0, 0])
        self.assertEqual(last(*ONE_WORK, fix(0, 100), look(0)), [3, 1, 2, 1, 0, 0])

    def test_in_the_order_in_which_they_were_told(self):
        site = [EMPTY, *[work(1)] * 6, after(4, 2, 1), after(0, 2, 3), after(5, 2, 0), after(1, 2, 5), after(3, 2, 4)]
        self.assertEqual(last(*site, look(2)), [1, 0, 0, 0, 0, 5, 4, 1, 0, 3, 5, 0, 1, 5, 3, 4])

    def test_one_taken_away_and_told_again_is_told_last(self):
        site = [EMPTY, *[work(1)] * 4, after(2, 3, 1), after(0, 3, 2), after(1, 3, 3)]
        self.assertEqual(last(*site, unafter(2, 3), look(3)), [1, 0, 0, 0, 0, 2, 0, 2, 1, 3])
        self.assertEqual(last(*site, unafter(2, 3), after(2, 3, 4), look(3)), [1, 0, 0, 0, 0, 3, 0, 2, 1, 3, 2, 4])

    def test_one_told_again_while_it_is_there_stays_in_its_place(self):
        site = [EMPTY, *[work(1)] * 3, after(1, 2, 1), after(0, 2, 2), after(1, 2, 5)]
        self.assertEqual(last(*site, look(2)), [1, 0, 0, 0, 0, 2, 1, 1, 0, 2])

    def test_a_refused_change_keeps_the_order(self):
        site = [EMPTY, *[work(1)] * 4, after(2, 3, 1), after(0, 3, 2), fix(3, 3), fix(1, 3)]
        self.assertEqual(ask(*site, after(1, 3), look(3))[-2:], [[-33], [1, 0, 0, 0, 4, 2, 2, 1, 0, 2]])

    def test_only_what_it_comes_after_directly(self):
        self.assertEqual(last(EMPTY, *[work(1)] * 3, after(0, 1), after(1, 2, 3), look(2)), [1, 0, 0, 0, 0, 1, 1, 3])

    def test_days_that_became_more(self):
        rows = ask(*ONE_WORK, longer(0, 2), look(0), longer(0, 1), look(0))
        self.assertEqual(rows[2:], [[5], [5, 1, 2, 1, 0, 0], [-22], [5, 1, 2, 1, 0, 0]])


class State(unittest.TestCase):
    def test_no_works(self):
        self.assertEqual(last(*NO_WORKS, state()), [0, 4, 3, 2])
        self.assertEqual(last(begin(0, 9, 0), state()), [0, 0, 9, 0])

    def test_one_work(self):
        self.assertEqual(last(*ONE_WORK, state()), [1, 4, 3, 2])

    def test_six_works(self):
        self.assertEqual(last(*HOUSE, state()), [6, 4, 3, 2])

    def test_changes_with_crews_works_and_begin(self):
        rows = ask(begin(1, 2, 3), state(), crew(1, 7), state(), work(1), state(), crew(2, 10), work(9), work(1, 0, 2),
                   begin(0, 0, 10), state(), begin(9, 8, 7), state())
        self.assertEqual([rows[k] for k in (1, 3, 5, 10, 12)],
                         [[0, 1, 2, 3], [0, 1, 7, 3], [1, 1, 7, 3], [1, 1, 7, 3], [0, 9, 8, 7]])

    def test_what_is_told_is_not_the_site_itself(self):
        self.assertEqual(ask(begin(1, 2, 3), state(), crew(0, 5), state(), crew(0, 6), state())[1::2],
                         [[0, 1, 2, 3], [0, 5, 2, 3], [0, 6, 2, 3]])


if __name__ == "__main__":
    unittest.main()
