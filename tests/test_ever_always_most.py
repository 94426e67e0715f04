import unittest

from tests.lines import (BEGIN, LARGEST, MOST, NEXT, RESULT, after, always, answer, ever, forget, need, question,
                         questions)

# Question 1 is asked by option 1 of question 0, and question 2 by option 2 of question 1.
CHAIN = [BEGIN, *questions(2, 3, 2), need(1, (0, 2)), need(2, (1, 4))]
# Question 1 is never asked, question 2 hangs on it, and question 3 needs that it isn't asked.
NEVER = [BEGIN, *questions(2, 2, 2, 2), need(1, (0, 0)), need(2, (1, 255)), need(3, (1, 256))]
# Either question 1 is asked or questions 2 and 3 are.
APART = [BEGIN, *questions(2, 2, 2, 2), need(1, (0, 1)), need(2, (0, 2)), need(3, (0, 2))]


class Ever(unittest.TestCase):
    def test_no_question(self):
        self.assertEqual(after([BEGIN], ever(0)), [[-2]])
        self.assertEqual(after(CHAIN, ever(3), ever(LARGEST)), [[-2], [-2]])

    def test_question_0_is_1_alone(self):
        self.assertEqual(after([BEGIN, question(1)], ever(0)), [[1]])
        self.assertEqual(after(CHAIN, ever(0)), [[1]])

    def test_without_needs_by_the_first_options(self):
        self.assertEqual(after([BEGIN, *questions(3, 3, 3)], ever(1), ever(2)), [[1, 0], [1, 0, 0]])

    def test_by_which_answers(self):
        self.assertEqual(after(CHAIN, ever(1), ever(2)), [[1, 1], [1, 1, 2]])

    def test_each_option(self):
        for o in range(8):
            with self.subTest(o=o):
                before = [BEGIN, *questions(8, 1), need(1, (0, 1 << o))]
                self.assertEqual(after(before, ever(1)), [[1, o]])

    def test_never_asked(self):
        self.assertEqual(after(NEVER, ever(1)), [[0]])

    def test_hangs_on_one_never_asked(self):
        self.assertEqual(after(NEVER, ever(2)), [[0]])

    def test_needs_that_cannot_be_met_together(self):
        before = [BEGIN, *questions(3, 2), need(1, (0, 1)), need(1, (0, 6))]
        self.assertEqual(after(before, ever(1)), [[0]])

    def test_an_option_that_is_not_there(self):
        before = [BEGIN, *questions(2, 2), need(1, (0, 4))]
        self.assertEqual(after(before, ever(1)), [[0]])

    def test_8_for_one_not_asked(self):
        self.assertEqual(after(NEVER, ever(3)), [[1, 0, 8, 8]])
        self.assertEqual(after(APART, ever(3)), [[1, 1, 8, 0]])

    def test_bit_8_of_one_that_is_always_asked(self):
        before = [BEGIN, *questions(2, 2), need(1, (0, 256))]
        self.assertEqual(after(before, ever(1)), [[0]])

    def test_the_earliest_differs_first_at_the_first_place(self):
        before = [BEGIN, *questions(2, 3, 1), need(2, (0, 2), (1, 4))]
        self.assertEqual(after(before, ever(2)), [[1, 0, 2]])

    def test_the_earliest_of_several_at_a_later_place(self):
        before = [BEGIN, *questions(2, 4, 4, 1), need(3, (0, 2)), need(3, (1, 12), (2, 14))]
        self.assertEqual(after(before, ever(3)), [[1, 1, 0, 1]])

    def test_any_option_is_earlier_than_not_asked(self):
        # Question 1 isn't asked by option 0 of question 0; the way by option 0 is the earlier one all the same.
        before = [BEGIN, *questions(2, 2, 2), need(1, (0, 2)), need(2, (0, 1), (1, 1))]
        self.assertEqual(after(before, ever(2)), [[1, 0, 8]])
        # Question 3 is asked by option 7 of question 2, or if that isn't asked; both by option 0 of question 0.
        before = [BEGIN, *questions(1, 2, 8, 1), need(2, (1, 1)), need(3, (2, 128 + 256))]
        self.assertEqual(after(before, ever(3)), [[1, 0, 0, 7]])

    def test_the_earliest_of_ways_that_are_alike(self):
        # Nobody names question 0, so its ways are alike; that with option 0 is told.
        before = [BEGIN, *questions(8, 2, 2), need(2, (1, 2))]
        self.assertEqual(after(before, ever(2)), [[1, 0, 1]])

    def test_the_earliest_of_alike_ways_that_have_parted(self):
        # Questions 0 and 1 tell apart only till question 2 is behind.
        before = [BEGIN, *questions(3, 3, 2, 2), need(2, (0, 4), (1, 2)), need(3, (2, 2))]
        self.assertEqual(after(before, ever(3)), [[1, 0, 1, 1]])

    def test_given_answers_change_nothing(self):
        before = CHAIN + [answer(0, 0)]
        self.assertEqual(after(before, ever(1), ever(2)), [[1, 1], [1, 1, 2]])
        before = CHAIN + [answer(0, 1), answer(1, 0)]
        self.assertEqual(after(before, ever(1), ever(2)), [[1, 1], [1, 1, 2]])

    def test_changes_nothing(self):
        before = CHAIN + [answer(0, 1)]
        rows = after(before, ever(2), ever(9), NEXT, RESULT, ever(2), answer(1, 2), NEXT)
        self.assertEqual(rows, [[1, 1, 2], [-2], [1, 1], [1, 0, 1], [1, 1, 2], [0], [1, 2]])


class Always(unittest.TestCase):
    def test_no_question(self):
        self.assertEqual(after([BEGIN], always(0)), [[-2]])
        self.assertEqual(after(CHAIN, always(3), always(LARGEST)), [[-2], [-2]])

    def test_question_0(self):
        self.assertEqual(after([BEGIN, question(1)], always(0)), [[1]])
        self.assertEqual(after(CHAIN, always(0)), [[1]])

    def test_without_needs(self):
        self.assertEqual(after([BEGIN, *questions(3, 3, 3)], always(1), always(2)), [[1], [1]])

    def test_with_needs(self):
        before = [BEGIN, *questions(2, 2, 2, 1), need(1, (0, 3)), need(2, (0, 1), (0, 2)), need(3, (1, 1), (1, 2))]
        self.assertEqual(after(before, always(1), always(2), always(3)), [[1]] * 3)

    def test_with_needs_of_one_that_is_not_always_asked(self):
        before = [BEGIN, *questions(2, 2, 2), need(1, (0, 2)), need(2, (1, 256 + 3))]
        self.assertEqual(after(before, always(1), always(2)), [[0, 0], [1]])

    def test_by_which_answers_it_is_not(self):
        self.assertEqual(after(CHAIN, always(1), always(2)), [[0, 0], [0, 0, 8]])

    def test_each_option(self):
        for o in range(8):
            with self.subTest(o=o):
                before = [BEGIN, *questions(8, 1), need(1, (0, 511 - (1 << o)))]
                self.assertEqual(after(before, always(1)), [[0, o]])

    def test_never_asked(self):
        self.assertEqual(after(NEVER, always(1), always(2), always(3)), [[0, 0], [0, 0, 8], [1]])

    def test_one_need_of_several_is_enough(self):
        before = [BEGIN, *questions(2, 3, 1), need(2, (0, 3)), need(2, (1, 3))]
        self.assertEqual(after(before, always(2)), [[0, 0, 2]])

    def test_8_for_one_not_asked(self):
        self.assertEqual(after(APART, always(1), always(2), always(3)), [[0, 1], [0, 0, 0], [0, 0, 0, 8]])

    def test_the_earliest_differs_first_at_the_first_place(self):
        before = [BEGIN, *questions(2, 3, 1), need(2, (0, 1)), need(2, (1, 3))]
        self.assertEqual(after(before, always(2)), [[0, 0, 2]])

    def test_the_earliest_of_ways_that_are_alike(self):
        before = [BEGIN, *questions(8, 2, 2), need(2, (1, 1))]
        self.assertEqual(after(before, always(2)), [[0, 0, 1]])

    def test_given_answers_change_nothing(self):
        before = CHAIN + [answer(0, 1), answer(1, 2), answer(2, 0)]
        self.assertEqual(after(before, always(1), always(2)), [[0, 0], [0, 0, 8]])
        before = [BEGIN, *questions(2, 2), need(1, (0, 3)), answer(0, 0)]
        self.assertEqual(after(before, always(1), forget(0), always(1)), [[1], [0], [1]])

    def test_changes_nothing(self):
        before = CHAIN + [answer(0, 1)]
        rows = after(before, always(2), always(9), NEXT, RESULT, always(2), answer(1, 2), NEXT)
        self.assertEqual(rows, [[0, 0, 8], [-2], [1, 1], [1, 0, 1], [0, 0, 8], [0], [1, 2]])


class Most(unittest.TestCase):
    def test_no_questions(self):
        self.assertEqual(after([BEGIN], MOST), [[0]])

    def test_one_question(self):
        for n in range(1, 9):
            self.assertEqual(after([BEGIN, question(n)], MOST), [[1]])

    def test_without_needs(self):
        self.assertEqual(after([BEGIN, *questions(2, 3, 1)], MOST), [[3]])

    def test_24_questions_without_needs(self):
        self.assertEqual(after([BEGIN, *questions(*[8] * 24)], MOST), [[24]])

    def test_all_may_be_asked(self):
        self.assertEqual(after(CHAIN, MOST), [[3]])

    def test_never_asked(self):
        self.assertEqual(after(NEVER, MOST), [[2]])

    def test_only_some_together(self):
        self.assertEqual(after(APART, MOST), [[3]])

    def test_the_most_by_an_earlier_way(self):
        before = [BEGIN, *questions(2, 2, 2, 2), need(1, (0, 2)), need(2, (0, 1)), need(3, (0, 1))]
        self.assertEqual(after(before, MOST), [[3]])

    def test_the_most_of_ways_that_are_alike(self):
        # Behind question 2 all ways are alike for question 3, but by two of them question 1 was not asked.
        before = [BEGIN, *questions(2, 2, 2, 2), need(1, (0, 2)), need(3, (2, 1))]
        self.assertEqual(after(before, MOST), [[4]])
        before = [BEGIN, *questions(2, 2, 2, 2), need(1, (0, 1)), need(3, (2, 1))]
        self.assertEqual(after(before, MOST), [[4]])

    def test_each_apart_from_the_others(self):
        before = [BEGIN, *questions(*[8] * 9)] + [need(q, (0, 1 << (q - 1))) for q in range(1, 9)]
        self.assertEqual(after(before, MOST), [[2]])

    def test_given_answers_change_nothing(self):
        self.assertEqual(after(APART, answer(0, 0), MOST, answer(0, 1), answer(2, 0), MOST), [[0], [3], [0], [0], [3]])

    def test_as_the_form_grows(self):
        rows = after([BEGIN], MOST, question(2), MOST, question(2), MOST, need(1, (0, 0)), MOST, BEGIN, MOST)
        self.assertEqual(rows, [[0], [0], [1], [1], [2], [1], [1], [0], [0]])

    def test_changes_nothing(self):
        before = CHAIN + [answer(0, 1)]
        self.assertEqual(after(before, MOST, NEXT, RESULT, MOST), [[3], [1, 1], [1, 0, 1], [3]])


class AsTheFormChanges(unittest.TestCase):
    def test_a_need_behind_what_was_told(self):
        before = [BEGIN, *questions(2, 2)]
        rows = after(before, ever(1), always(1), need(1, (0, 2)), ever(1), always(1), need(1, (0, 1)), ever(1))
        self.assertEqual(rows, [[1, 0], [1], [1], [1, 1], [0, 0], [2], [0]])

    def test_a_question_behind_what_was_told(self):
        rows = after([BEGIN, question(2)], ever(1), question(2), ever(1), always(1))
        self.assertEqual(rows, [[-2], [1], [1, 0], [1]])

    def test_begin_behind_what_was_told(self):
        rows = after(CHAIN, ever(2), BEGIN, ever(2), *questions(1, 1, 1), ever(2), always(2))
        self.assertEqual(rows, [[1, 1, 2], [0], [-2], [0], [1], [2], [1, 0, 0], [1]])

    def test_a_refused_need_changes_nothing(self):
        rows = after(CHAIN, need(1, (0, 512)), need(1, (1, 0)), need(1), ever(1), always(1), MOST)
        self.assertEqual(rows, [[-22]] * 3 + [[1, 1], [0, 0], [3]])


if __name__ == "__main__":
    unittest.main()
