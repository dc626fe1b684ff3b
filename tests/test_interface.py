import unittest

from crewscrane.sites import answers
from helper import (HUGE, after, ask, begin, behind, crew, day, early, enough, fix, last, late, line_of, longer, look,
                    plan, shortest, slack, span, state, unafter, unfix, use, work)

# Every call of the interface but begin, with ordinary numbers.
ALL_BUT_BEGIN = [
    work(1), after(0, 1), unafter(0, 1), crew(0, 1), longer(0, 1), fix(0, 0), unfix(0), early(), late(9),
    slack(), span(), shortest(), plan(), day(0), use(0), enough(0), behind(0), look(0), state(),
]

WHOLE_LINE = line_of([
    early(), begin(3, 4, 5), work(2, 0, 3), work(3, 1, 4, 1), work(1, 2, 5, 1), after(0, 1, 2), after(1, 2), fix(2, 20),
    crew(0, 2), crew(1, 9), longer(0, 1), early(), late(30), unafter(1, 2), unfix(2), unfix(2), work(1, 0, 4), early(),
    slack(), span(), shortest(), plan(), day(5), use(1), enough(1), behind(0), look(1), state(), use(3), look(3),
])


class Form(unittest.TestCase):
    def test_each_answer_has_its_size_ahead_of_it(self):
        line = [0, 9, 9, 9, 1, 2, 0, 1, 0, 1, 3, 1, 1, 1, 2, 0, 1, 4, 8, 9, 20, 7, 5, 6, 0, 100]
        told = [1, 0, 1, 0, 1, 1, 1, 0, 3, 2, 0, 6, 3, 2, 11, 17, 1, -2, 1, -22]
        self.assertEqual(answers(line), told)

    def test_one_call_alone(self):
        self.assertEqual(answers([0, 1, 2, 3]), [1, 0])
        self.assertEqual(answers([8]), [1, -11])

    def test_gives_a_list_of_whole_numbers(self):
        told = answers(WHOLE_LINE)
        self.assertIs(type(told), list)
        self.assertEqual({type(number) for number in told}, {int})

    def test_a_whole_line(self):
        rows = ask(early(), begin(3, 4, 5), work(2, 0, 3), work(3, 1, 4, 1), work(1, 2, 5, 1), after(0, 1, 2),
                   after(1, 2), fix(2, 20), crew(0, 2), crew(1, 9), longer(0, 1), early(), late(30), unafter(1, 2),
                   unfix(2), unfix(2), work(1, 0, 4), early(), slack(), span(), shortest(), plan(), day(5), use(1),
                   enough(1), behind(0), look(1), state(), use(3), look(3))
        self.assertEqual(rows, [[-11], [0], [0], [1], [2], [0], [0], [0], [-33], [4], [3], [3, 0, 5, 8],
                                [3, 21, 26, 29], [0], [0], [-6], [-33], [3, 0, 5, 0],
                                [3, 0, 0, 7], [8], [8], [3, 0, 5, 0], [1, 1], [4], [4], [1, 1],
                                [3, 1, 4, 1, 0, 1, 0, 2], [3, 3, 9, 5], [-22], [-2]])

    def test_sixty_calls(self):
        rows = ask(begin(1, 1, 1), *([work(1)] * 6), *([early()] * 53))
        self.assertEqual(rows, [[0], [0], [1], [2], [3], [4], [5]] + [[6, 0, 0, 0, 0, 0, 0]] * 53)


class NothingIsKept(unittest.TestCase):
    def test_the_list_handed_in_is_unchanged(self):
        line = list(WHOLE_LINE)
        answers(line)
        self.assertEqual(line, WHOLE_LINE)

    def test_the_same_list_twice_is_answered_the_same(self):
        line = list(WHOLE_LINE)
        self.assertEqual(answers(line), answers(line))

    def test_a_line_begins_with_a_new_object(self):
        ask(begin(9, 9, 9), work(1), work(2))
        self.assertEqual(ask(early(), begin(0, 0, 0), early()), [[-11], [0], [0]])

    def test_changing_what_was_given_back_changes_nothing(self):
        told = answers(WHOLE_LINE)
        kept = list(told)
        told.clear()
        self.assertEqual(answers(WHOLE_LINE), kept)


class BeforeBegin(unittest.TestCase):
    def test_every_other_call(self):
        for call in ALL_BUT_BEGIN:
            self.assertEqual(ask(call), [[-11]], call)

    def test_ahead_of_every_other_refusal(self):
        wrong = [work(0), work(1, 3), after(0, 0, 6), unafter(0, 0), crew(3, 10), longer(0, 0), fix(0, 100), unfix(0),
                 late(100), late(HUGE), work(HUGE, HUGE, HUGE, HUGE), after(HUGE, HUGE, HUGE), crew(HUGE, HUGE),
                 day(HUGE), use(3), use(HUGE), enough(3), enough(HUGE), behind(HUGE), look(HUGE)]
        for call in wrong:
            self.assertEqual(ask(call), [[-11]], call)

    def test_every_other_call_behind_a_refused_begin(self):
        for call in ALL_BUT_BEGIN:
            self.assertEqual(ask(begin(10, 0, 0), call), [[-22], [-11]], call)

    def test_what_was_told_before_is_not_there_behind(self):
        self.assertEqual(ask(work(1), begin(1, 1, 1), early()), [[-11], [0], [0]])


class Begin(unittest.TestCase):
    def test_the_crews_are_those_told(self):
        self.assertEqual(ask(begin(1, 2, 3), crew(0, 0), crew(1, 0), crew(2, 0)), [[0], [1], [2], [3]])

    def test_crews_of_0_and_of_9(self):
        self.assertEqual(ask(begin(0, 0, 0), crew(0, 9), crew(1, 9), crew(2, 9)), [[0], [0], [0], [0]])
        self.assertEqual(ask(begin(9, 9, 9), crew(0, 0), crew(1, 0), crew(2, 0)), [[0], [9], [9], [9]])

    def test_no_crew_may_be_above_9(self):
        for many in (10, HUGE):
            for call in (begin(many, 0, 0), begin(0, many, 0), begin(0, 0, many), begin(many, many, many)):
                self.assertEqual(ask(call), [[-22]], call)

    def test_a_second_one_takes_the_works_away_and_brings_new_crews(self):
        rows = ask(begin(1, 2, 3), work(1), work(2), after(0, 1), fix(0, 4), begin(4, 5, 6), early(), unfix(0),
                   crew(0, 1), crew(1, 1), crew(2, 1), work(3), unfix(0), early())
        self.assertEqual(rows[5:], [[0], [0], [-2], [4], [5], [6], [0], [-6], [1, 0]])

    def test_a_second_one_that_is_refused_changes_nothing(self):
        rows = ask(begin(1, 2, 3), work(1), work(2), after(0, 1, 5), fix(1, 40), begin(0, 0, 10), early(), crew(0, 9),
                   crew(1, 9), crew(2, 9), unfix(1), unafter(0, 1))
        self.assertEqual(rows[5:], [[-22], [2, 0, 6], [1], [2], [3], [0], [0]])


class EveryCallReadsItsOwnNumbers(unittest.TestCase):
    def test_a_refused_call_is_read_whole(self):
        wrong = [begin(HUGE, 0, 8), work(9, 8, 8, 8), after(8, 8, 8), unafter(8, 8), crew(8, 8), longer(8, 8),
                 fix(8, 8), unfix(8), late(HUGE), use(8), enough(8), behind(8), look(8)]
        refusals = [-22, -22, -2, -2, -22, -2, -2, -2, -22, -22, -22, -2, -2]
        for call, refusal in zip(wrong, refusals):
            self.assertEqual(ask(begin(1, 1, 1), call, early()), [[0], [refusal], [0]], call)

    def test_arguments_as_great_as_they_come(self):
        site = [begin(9, 9, 9), work(1), work(1)]
        asked = [
            (begin(HUGE, HUGE, HUGE), -22), (work(HUGE), -22), (work(1, HUGE), -22), (work(1, 0, HUGE), -22),
            (work(1, 0, 0, HUGE), -22), (after(HUGE, 0), -2), (after(0, HUGE), -2), (after(0, 1, HUGE), -22),
            (unafter(HUGE, 0), -2), (unafter(0, HUGE), -2), (crew(HUGE, 0), -22), (crew(0, HUGE), -22),
            (longer(HUGE, 1), -2), (longer(0, HUGE), -22), (fix(HUGE, 0), -2), (fix(0, HUGE), -22), (unfix(HUGE), -2),
            (late(HUGE), -22), (use(HUGE), -22), (enough(HUGE), -22), (behind(HUGE), -2), (look(HUGE), -2),
        ]
        for call, refusal in asked:
            self.assertEqual(last(*site, call), [refusal], call)
            self.assertEqual(last(*site, call, early()), [2, 0, 0], call)

    def test_each_call_that_asks_is_read_whole(self):
        site = [begin(9, 8, 7), work(1), work(1)]
        for call in (early(), late(9), slack(), span(), shortest(), plan(), day(8), use(2), enough(2), behind(1),
                     look(1), state()):
            self.assertEqual(last(*site, call, state()), [2, 9, 8, 7], call)


if __name__ == "__main__":
    unittest.main()
