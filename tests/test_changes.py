import unittest

from helper import after, ask, begin, crew, early, fix, last, late, longer, unafter, unfix, work

SIX = [work(1)] * 6


class Work(unittest.TestCase):
    def test_numbers_rise_from_0(self):
        self.assertEqual(ask(begin(1, 1, 1), work(1), work(2), work(3))[1:], [[0], [1], [2]])

    def test_days(self):
        asked = [(0, -22), (1, 0), (5, 0), (6, -22)]
        for days, answer in asked:
            self.assertEqual(last(begin(9, 9, 9), work(days)), [answer], days)

    def test_kind(self):
        asked = [(0, 0), (1, 0), (2, 0), (3, -22)]
        for kind, answer in asked:
            self.assertEqual(last(begin(9, 9, 9), work(1, kind, 9)), [answer], kind)

    def test_persons(self):
        asked = [(0, 0), (9, 0), (10, -22)]
        for persons, answer in asked:
            self.assertEqual(last(begin(9, 9, 9), work(1, 0, persons)), [answer], persons)

    def test_crane(self):
        asked = [(0, 0), (1, 0), (2, -22)]
        for crane, answer in asked:
            self.assertEqual(last(begin(9, 9, 9), work(1, 0, 0, crane)), [answer], crane)

    def test_six_works_and_a_seventh(self):
        rows = ask(begin(9, 9, 9), *SIX, work(1), early())
        self.assertEqual(rows[1:], [[0], [1], [2], [3], [4], [5], [-28], [6, 0, 0, 0, 0, 0, 0]])

    def test_more_persons_than_its_own_crew_has(self):
        for kind in range(3):
            crews = [9, 9, 9]
            crews[kind] = 4
            self.assertEqual(last(begin(*crews), work(1, kind, 4)), [0])
            self.assertEqual(last(begin(*crews), work(1, kind, 5)), [-33])

    def test_wrong_numbers_are_refused_ahead_of_a_seventh_work(self):
        for wrong in (work(0), work(6), work(1, 3), work(1, 0, 10), work(1, 0, 0, 2)):
            self.assertEqual(last(begin(9, 9, 9), *SIX, wrong), [-22], wrong)

    def test_wrong_numbers_are_refused_ahead_of_a_crew_too_small(self):
        for wrong in (work(0, 0, 2), work(6, 0, 2), work(1, 3, 2), work(1, 0, 10), work(1, 0, 2, 2)):
            self.assertEqual(last(begin(1, 1, 1), wrong), [-22], wrong)

    def test_a_seventh_work_is_refused_ahead_of_a_crew_too_small(self):
        self.assertEqual(last(begin(1, 1, 1), *SIX, work(1, 0, 2)), [-28])

    def test_a_refused_one_changes_nothing(self):
        for wrong in (work(0), work(1, 0, 2)):
            rows = ask(begin(1, 1, 1), work(2), wrong, early(), work(3), early())
            self.assertEqual(rows[3:], [[1, 0], [1], [2, 0, 0]])

    def test_comes_after_none_and_is_not_fixed(self):
        rows = ask(begin(1, 1, 1), work(2), work(3), unafter(0, 1), unafter(1, 0), unfix(1))
        self.assertEqual(rows[3:], [[-6], [-6], [-6]])

    def test_goes_in_beside_fixed_ones_that_take_all(self):
        rows = ask(begin(1, 0, 0), work(5, 0, 1, 1), fix(0, 0), work(5, 0, 1, 1))
        self.assertEqual(rows[3], [1])


class After(unittest.TestCase):
    def test_b_comes_after_a(self):
        self.assertEqual(ask(begin(1, 1, 1), work(2), work(3), after(0, 1, 4), early())[3:], [[0], [2, 0, 6]])
        self.assertEqual(ask(begin(1, 1, 1), work(2), work(3), after(1, 0, 4), early())[3:], [[0], [2, 7, 0]])

    def test_no_such_work(self):
        site = [begin(1, 1, 1), work(1), work(1)]
        for call in (after(2, 0), after(0, 2), after(2, 2), after(9, 9)):
            self.assertEqual(last(*site, call), [-2], call)
        self.assertEqual(last(begin(1, 1, 1), after(0, 0)), [-2])

    def test_wait(self):
        asked = [(0, 0), (5, 0), (6, -22)]
        for wait, answer in asked:
            self.assertEqual(last(begin(1, 1, 1), work(1), work(1), after(0, 1, wait)), [answer], wait)

    def test_already(self):
        site = [begin(1, 1, 1), work(1), work(1), after(0, 1, 2)]
        self.assertEqual(last(*site, after(0, 1, 2)), [-17])
        self.assertEqual(last(*site, after(0, 1, 5)), [-17])
        self.assertEqual(last(*site, after(0, 1, 5), early()), [2, 0, 3])

    def test_again_behind_unafter(self):
        rows = ask(begin(1, 1, 1), work(1), work(1), after(0, 1, 2), unafter(0, 1), after(0, 1, 5), early())
        self.assertEqual(rows[4:], [[0], [0], [2, 0, 6]])

    def test_what_comes_behind_through_others_may_come_after_too(self):
        rows = ask(begin(1, 1, 1), *SIX[:3], after(0, 1), after(1, 2), after(0, 2, 5), early())
        self.assertEqual(rows[6:], [[0], [3, 0, 1, 6]])

    def test_after_itself(self):
        self.assertEqual(last(begin(1, 1, 1), work(1), after(0, 0)), [-61])

    def test_a_ring_of_two(self):
        self.assertEqual(last(begin(1, 1, 1), work(1), work(1), after(0, 1), after(1, 0)), [-61])

    def test_a_ring_of_six(self):
        chain = [after(k, k + 1) for k in range(5)]
        self.assertEqual(last(begin(1, 1, 1), *SIX, *chain, after(5, 0)), [-61])
        self.assertEqual(last(begin(1, 1, 1), *SIX, *chain, after(4, 1)), [-61])
        self.assertEqual(last(begin(1, 1, 1), *SIX, *chain, unafter(2, 3), after(5, 0)), [0])

    def test_a_ring_through_the_second_that_is_told(self):
        self.assertEqual(last(begin(1, 1, 1), *SIX[:4], after(3, 2), after(1, 2), after(0, 1), after(2, 0)), [-61])

    def test_no_plan(self):
        site = [begin(1, 1, 1), work(2), work(1), fix(0, 3), fix(1, 7)]
        self.assertEqual(last(*site, after(0, 1, 2)), [0])
        self.assertEqual(last(*site, after(0, 1, 3)), [-33])
        self.assertEqual(last(*site, after(1, 0)), [-33])

    def test_no_such_work_is_refused_ahead_of_a_wait_too_long(self):
        site = [begin(1, 1, 1), work(1)]
        self.assertEqual(last(*site, after(0, 1, 6)), [-2])
        self.assertEqual(last(*site, after(1, 0, 6)), [-2])
        self.assertEqual(last(*site, after(1, 1, 0)), [-2])

    def test_a_wait_too_long_is_refused_ahead_of_all_but_no_such_work(self):
        site = [begin(1, 1, 1), work(1), work(1), fix(0, 0), after(0, 1)]
        self.assertEqual(last(*site, after(0, 1, 6)), [-22])
        self.assertEqual(last(*site, after(0, 0, 6)), [-22])
        self.assertEqual(last(*site, after(1, 0, 6)), [-22])
        self.assertEqual(last(begin(1, 1, 1), work(1), work(1), fix(1, 0), after(0, 1, 6)), [-22])

    def test_already_is_refused_ahead_of_no_plan(self):
        self.assertEqual(last(begin(1, 1, 1), work(1), work(1), after(0, 1), fix(1, 1), after(0, 1, 5)), [-17])

    def test_a_ring_is_refused_ahead_of_no_plan(self):
        site = [begin(1, 1, 1), work(1), work(1), after(0, 1), fix(0, 0), fix(1, 1)]
        self.assertEqual(last(*site, after(1, 0)), [-61])
        self.assertEqual(last(*site, after(0, 0)), [-61])

    def test_a_refused_one_changes_nothing(self):
        site = [begin(1, 1, 1), work(1), work(1), after(0, 1, 1), fix(0, 0)]
        for wrong in (after(0, 2), after(0, 1, 6), after(0, 1, 3), after(1, 0), after(1, 1)):
            rows = ask(*site, wrong, early(), unafter(1, 0), unafter(1, 1), unafter(0, 1), early())
            self.assertEqual(rows[6:], [[2, 0, 2], [-6], [-6], [0], [2, 0, 0]], wrong)
        rows = ask(begin(1, 1, 1), work(1), work(1), fix(1, 0), after(0, 1), unafter(0, 1), early())
        self.assertEqual(rows[4:], [[-33], [-6], [2, 0, 0]])


class Unafter(unittest.TestCase):
    def test_it_does_not_come_after_it_any_more(self):
        rows = ask(begin(1, 1, 1), *SIX[:3], after(0, 2, 3), after(1, 2, 1), unafter(0, 2), early(), unafter(0, 2))
        self.assertEqual(rows[6:], [[0], [3, 0, 0, 2], [-6]])

    def test_no_such_work(self):
        site = [begin(1, 1, 1), work(1), work(1), after(0, 1)]
        for call in (unafter(2, 1), unafter(0, 2), unafter(2, 2)):
            self.assertEqual(last(*site, call), [-2], call)

    def test_does_not_come_after_it(self):
        site = [begin(1, 1, 1), *SIX[:3], after(0, 1), after(1, 2)]
        for call in (unafter(1, 0), unafter(0, 2), unafter(0, 0)):
            self.assertEqual(last(*site, call), [-6], call)
            self.assertEqual(last(*site, call, early()), [3, 0, 1, 2], call)

    def test_a_plan_holds_then_that_did_not(self):
        rows = ask(begin(1, 1, 1), work(2), work(2), after(0, 1), fix(1, 1), unafter(0, 1), fix(1, 1))
        self.assertEqual(rows[4:], [[-33], [0], [0]])


class Crew(unittest.TestCase):
    def test_answers_how_many_it_had(self):
        rows = ask(begin(1, 2, 3), crew(0, 7), crew(0, 8), crew(1, 0), crew(1, 0), crew(2, 9), crew(2, 3))
        self.assertEqual(rows[1:], [[1], [7], [2], [0], [3], [9]])

    def test_kind_and_number(self):
        asked = [(crew(2, 9), 3), (crew(3, 9), -22), (crew(2, 10), -22), (crew(2, 0), 3), (crew(3, 10), -22)]
        for call, answer in asked:
            self.assertEqual(last(begin(1, 2, 3), call), [answer], call)

    def test_as_many_as_a_work_needs_and_one_fewer(self):
        for kind in range(3):
            site = [begin(9, 9, 9), work(1, kind, 4)]
            self.assertEqual(last(*site, crew(kind, 4)), [9])
            self.assertEqual(last(*site, crew(kind, 3)), [-33])
            self.assertEqual(last(*site, crew((kind + 1) % 3, 0)), [9])

    def test_as_many_as_fixed_works_need_on_one_day_and_one_fewer(self):
        site = [begin(9, 9, 9), work(3, 0, 4), work(3, 0, 3), fix(0, 0), fix(1, 2)]
        self.assertEqual(last(*site, crew(0, 7)), [9])
        self.assertEqual(last(*site, crew(0, 6)), [-33])
        self.assertEqual(last(*site, fix(1, 3), crew(0, 4)), [9])

    def test_wrong_numbers_are_refused_ahead_of_no_plan(self):
        self.assertEqual(last(begin(9, 9, 9), work(1, 2, 9), crew(3, 0)), [-22])

    def test_a_refused_one_changes_nothing(self):
        for wrong in (crew(0, 10), crew(3, 0), crew(0, 4)):
            rows = ask(begin(6, 7, 8), work(1, 0, 5), wrong, crew(0, 9), crew(1, 9), crew(2, 9), early())
            self.assertEqual(rows[3:], [[6], [7], [8], [1, 0]], wrong)

    def test_more_persons_let_a_work_in(self):
        rows = ask(begin(1, 1, 1), work(1, 1, 2), crew(1, 2), work(1, 1, 2))
        self.assertEqual(rows[1:], [[-33], [1], [0]])


class Longer(unittest.TestCase):
    def test_answers_how_many_days_it_takes_then(self):
        rows = ask(begin(1, 1, 1), work(1), work(1), after(0, 1), longer(0, 2), early(), longer(0, 1), early())
        self.assertEqual(rows[4:], [[3], [2, 0, 3], [4], [2, 0, 4]])

    def test_no_such_work(self):
        self.assertEqual(last(begin(1, 1, 1), work(1), longer(1, 1)), [-2])

    def test_number_of_days(self):
        asked = [(2, 0, -22), (2, 1, 3), (2, 3, 5), (2, 4, -22), (1, 4, 5), (1, 5, -22), (5, 0, -22), (5, 1, -22)]
        for days, n, answer in asked:
            self.assertEqual(last(begin(1, 1, 1), work(days), longer(0, n)), [answer], (days, n))

    def test_no_plan(self):
        site = [begin(1, 1, 1), work(1), work(1), after(0, 1, 2), fix(1, 5)]
        self.assertEqual(last(*site, longer(0, 2)), [3])
        self.assertEqual(last(*site, longer(0, 3)), [-33])

    def test_no_plan_for_the_crew(self):
        site = [begin(1, 1, 1), work(1, 0, 1), work(1, 0, 1), fix(0, 3), fix(1, 5)]
        self.assertEqual(last(*site, longer(0, 1)), [2])
        self.assertEqual(last(*site, longer(0, 2)), [-33])
        self.assertEqual(last(*site, longer(1, 4)), [5])

    def test_no_such_work_is_refused_ahead_of_wrong_numbers(self):
        self.assertEqual(last(begin(1, 1, 1), work(1), longer(1, 0)), [-2])
        self.assertEqual(last(begin(1, 1, 1), work(1), longer(1, 5)), [-2])

    def test_wrong_numbers_are_refused_ahead_of_no_plan(self):
        site = [begin(1, 1, 1), work(1), work(1), after(0, 1), fix(1, 1)]
        self.assertEqual(last(*site, longer(0, 4)), [-33])
        self.assertEqual(last(*site, longer(0, 5)), [-22])

    def test_a_refused_one_changes_nothing(self):
        for wrong in (longer(2, 1), longer(0, 0), longer(0, 5), longer(0, 2)):
            rows = ask(begin(1, 1, 1), work(1), work(1), after(0, 1), fix(1, 2), wrong, early(), longer(0, 1), early())
            self.assertEqual(rows[6:], [[2, 0, 1], [2], [2, 0, 2]], wrong)


class Fix(unittest.TestCase):
    def test_it_begins_on_that_day_and_not_later(self):
        site = [begin(1, 1, 1), work(2, 0, 1), work(3, 0, 1), fix(0, 10)]
        self.assertEqual(last(*site), [0])
        asked = [(7, 0), (8, -33), (9, -33), (10, -33), (11, -33), (12, 0)]
        for d, answer in asked:
            self.assertEqual(last(*site, fix(1, d)), [answer], d)

    def test_it_begins_on_that_day_and_not_earlier(self):
        site = [begin(1, 1, 1), work(2), work(1), after(0, 1), fix(0, 10)]
        asked = [(0, -33), (11, -33), (12, 0), (13, 0)]
        for d, answer in asked:
            self.assertEqual(last(*site, fix(1, d)), [answer], d)

    def test_no_such_work(self):
        self.assertEqual(last(begin(1, 1, 1), work(1), fix(1, 0)), [-2])

    def test_day(self):
        asked = [(0, 0), (99, 0), (100, -22)]
        for d, answer in asked:
            self.assertEqual(last(begin(1, 1, 1), work(5), fix(0, d)), [answer], d)

    def test_again_on_another_day(self):
        rows = ask(begin(1, 1, 1), work(1, 0, 1), work(1, 0, 1), fix(0, 3), fix(0, 5), fix(1, 3), fix(1, 5), unfix(0),
                   unfix(0), fix(1, 5))
        self.assertEqual(rows[4:], [[0], [0], [-33], [0], [-6], [0]])

    def test_no_such_work_is_refused_ahead_of_a_day_too_late(self):
        self.assertEqual(last(begin(1, 1, 1), work(1), fix(1, 100)), [-2])

    def test_a_day_too_late_is_refused_ahead_of_no_plan(self):
        site = [begin(1, 1, 1), work(1), work(1), after(0, 1), fix(1, 50)]
        self.assertEqual(last(*site, fix(0, 99)), [-33])
        self.assertEqual(last(*site, fix(0, 100)), [-22])

    def test_a_refused_one_changes_nothing(self):
        site = [begin(1, 1, 1), work(2), work(1), after(0, 1)]
        for wrong in (fix(2, 0), fix(1, 100), fix(1, 1)):
            self.assertEqual(ask(*site, wrong, unfix(0), unfix(1), early())[5:], [[-6], [-6], [2, 0, 2]], wrong)

    def test_a_refused_one_leaves_it_fixed_as_it_was(self):
        site = [begin(1, 1, 1), work(2), work(1), after(0, 1), fix(1, 7)]
        for wrong in (fix(1, 100), fix(1, 1)):
            self.assertEqual(ask(*site, wrong, fix(0, 6), fix(0, 5), unfix(1))[6:], [[-33], [0], [0]], wrong)


class Unfix(unittest.TestCase):
    def test_it_is_not_fixed_any_more(self):
        site = [begin(1, 1, 1), work(2), work(1), after(0, 1)]
        rows = ask(*site, fix(1, 2), fix(0, 1), unfix(1), fix(0, 1), unfix(1))
        self.assertEqual(rows[4:], [[0], [-33], [0], [0], [-6]])

    def test_fixed_on_day_0(self):
        rows = ask(begin(1, 1, 1), work(1), fix(0, 0), unfix(0), unfix(0))
        self.assertEqual(rows[2:], [[0], [0], [-6]])

    def test_no_such_work(self):
        self.assertEqual(last(begin(1, 1, 1), unfix(0)), [-2])
        self.assertEqual(last(begin(1, 1, 1), work(1), fix(0, 3), unfix(1)), [-2])

    def test_not_fixed(self):
        rows = ask(begin(1, 1, 1), work(1), work(1), fix(1, 3), unfix(0), early(), unfix(1))
        self.assertEqual(rows[4:], [[-6], [2, 0, 0], [0]])


class Early(unittest.TestCase):
    def test_without_works(self):
        self.assertEqual(last(begin(1, 1, 1), early()), [0])

    def test_behind_the_latest_of_all_it_comes_after(self):
        rows = ask(begin(1, 1, 1), work(5), work(1), work(3), work(1), after(0, 2), after(1, 2, 5), after(2, 3, 1),
                   after(0, 3), early())
        self.assertEqual(rows[-1], [4, 0, 0, 6, 10])

    def test_the_numbers_need_not_rise_along_the_waits(self):
        rows = ask(begin(1, 1, 1), work(1), work(2), work(3), after(2, 1, 1), after(1, 0, 2), early())
        self.assertEqual(rows[-1], [3, 8, 4, 0])

    def test_a_long_chain(self):
        chain = [after(k, k + 1, 5) for k in range(5)]
        self.assertEqual(last(begin(1, 1, 1), *([work(5)] * 6), *chain, early()), [6, 0, 10, 20, 30, 40, 50])

    def test_crews_crane_and_fixed_days_do_not_count(self):
        rows = ask(begin(1, 1, 1), work(2, 0, 1, 1), work(2, 0, 1, 1), work(1), after(1, 2), fix(0, 30), fix(1, 40),
                   early())
        self.assertEqual(rows[-1], [3, 0, 0, 2])


class Late(unittest.TestCase):
    SITE = [begin(1, 1, 1), work(2), work(3), work(1), work(4), after(0, 1, 2), after(1, 2), after(0, 3, 1)]

    def test_at_the_span_and_one_below(self):
        self.assertEqual(last(*self.SITE, late(8)), [4, 0, 4, 7, 4])
        self.assertEqual(last(*self.SITE, late(7)), [-33])
        self.assertEqual(last(*self.SITE, late(0)), [-33])

    def test_above_the_span(self):
        self.assertEqual(last(*self.SITE, late(9)), [4, 1, 5, 8, 5])

    def test_at_99_and_100(self):
        self.assertEqual(last(*self.SITE, late(99)), [4, 91, 95, 98, 95])
        self.assertEqual(last(*self.SITE, late(100)), [-22])

    def test_without_works(self):
        self.assertEqual(last(begin(1, 1, 1), late(0)), [0])
        self.assertEqual(last(begin(1, 1, 1), late(99)), [0])
        self.assertEqual(last(begin(1, 1, 1), late(100)), [-22])

    def test_the_greatest_span(self):
        site = [begin(1, 1, 1), *([work(5)] * 6), *[after(k, k + 1, 5) for k in range(5)]]
        self.assertEqual(last(*site, late(54)), [-33])
        self.assertEqual(last(*site, late(55)), [6, 0, 10, 20, 30, 40, 50])

    def test_the_span_need_not_be_that_of_the_last_work(self):
        rows = ask(begin(1, 1, 1), work(5), work(1), late(4), late(5))
        self.assertEqual(rows[3:], [[-33], [2, 0, 4]])

    def test_crews_crane_and_fixed_days_do_not_count(self):
        rows = ask(begin(1, 1, 1), work(2, 0, 1, 1), work(3, 0, 1, 1), fix(0, 30), fix(1, 40), late(2), late(3))
        self.assertEqual(rows[5:], [[-33], [2, 1, 0]])

    def test_a_refused_one_changes_nothing(self):
        self.assertEqual(last(*self.SITE, late(100), late(7), early()), [4, 0, 4, 7, 3])


if __name__ == "__main__":
    unittest.main()
