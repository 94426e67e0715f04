import unittest

from tests.lines import (BEGIN, LARGEST, MOST, NEXT, RESULT, after, always, answer, ever, forget, need, question,
                         questions)

# 5 * 5 * 4 * 3 ways are told apart behind question 3.
JUST_300 = [BEGIN, *questions(5, 5, 4, 3, 1), need(4, (0, 1), (1, 1), (2, 1), (3, 1))]
# Question 4 is asked by one of the 300 ways alone, and parts it in two; question 5 names all five.
JUST_301 = [BEGIN, *questions(5, 5, 4, 3, 2, 1)] + [need(4, (q, 1)) for q in range(4)]
JUST_301 += [need(5, (0, 1), (1, 1), (2, 1), (3, 1)), need(5, (4, 258))]
# 8 * 8 ways are told apart behind question 1, and 8 * 8 * 8 behind question 2.
NAMES = need(3, (0, 1), (1, 1), (2, 1))
JUST_512 = [BEGIN, *questions(8, 8, 8, 1), NAMES]


class HowMany(unittest.TestCase):
    def test_300_are_told(self):
        self.assertEqual(after(JUST_300, ever(4), always(4), MOST), [[1, 0, 0, 0, 0], [0, 1, 1, 1, 1], [5]])

    def test_301_are_not(self):
        self.assertEqual(after(JUST_301, ever(5), always(5), MOST), [[-75]] * 3)

    def test_ahead_of_the_301_still_told(self):
        self.assertEqual(after(JUST_301, ever(4), always(4)), [[1, 0, 0, 0, 0], [0, 0, 0, 0, 1]])

    def test_300_where_the_last_does_not_part_them(self):
        before = [BEGIN, *questions(5, 5, 4, 3, 1, 1)] + JUST_301[7:]
        self.assertEqual(after(before, ever(5), always(5), MOST), [[1, 0, 0, 0, 1, 8], [0, 0, 0, 0, 0, 0], [5]])

    def test_512_are_not(self):
        self.assertEqual(after(JUST_512, ever(3), always(3), MOST), [[-75]] * 3)

    def test_one_that_is_not_asked_is_one_way(self):
        # Question 2 is asked by option 0 of question 0 alone: 8 * 8 + 7 * 8 ways.
        before = JUST_512 + [need(2, (0, 1))]
        self.assertEqual(after(before, ever(3), always(3), MOST), [[1, 0, 0, 0], [0, 1, 1, 8], [4]])

    def test_not_asked_is_told_apart_from_an_option(self):
        # Question 0 is named by question 1 alone, which has one option: so 2 * 5 * 5 * n ways behind question 4.
        for n, wanted in ((6, [1, 0, 0, 0, 0, 0]), (7, [-75])):
            with self.subTest(n=n):
                before = [BEGIN, *questions(2, 1, 5, 5, n, 1), need(1, (0, 1))]
                before += [need(5, (1, 1), (2, 1), (3, 1), (4, 1))]
                self.assertEqual(after(before, ever(5)), [wanted])

    def test_behind_any_question_not_only_the_last(self):
        before = JUST_512 + [question(2), question(2), need(5, (4, 1))]
        self.assertEqual(after(before, ever(4), ever(5), always(4), always(5), MOST), [[-75]] * 5)


class WhoNames(unittest.TestCase):
    def test_named_by_none(self):
        before = [BEGIN, *questions(*[8] * 24)]
        self.assertEqual(after(before, ever(23), always(23), MOST), [[1] + [0] * 23, [1], [24]])

    def test_named_by_none_behind_any_more(self):
        # Each names the one before it: behind a question only what comes of itself tells ways apart.
        before = [BEGIN, *questions(*[8] * 24)] + [need(q, (q - 1, 128)) for q in range(1, 24)]
        self.assertEqual(after(before, ever(23), always(23)), [[1] + [7] * 23, [0, 0] + [8] * 22])
        self.assertEqual(after(before, MOST), [[24]])

    def test_named_only_ahead(self):
        # Questions 0 and 1 are named by question 2 and none behind it, so question 2 may have 8 options of its own.
        before = [BEGIN, *questions(8, 8, 8, 8, 1), need(2, (0, 2), (1, 2)), need(4, (2, 4), (3, 4))]
        before += [need(4, (3, 2))]
        self.assertEqual(after(before, ever(4), always(4), MOST), [[1, 0, 1, 2, 1], [0, 0, 0, 8, 0], [5]])

    def test_three_of_which_one_is_not_named(self):
        before = [BEGIN, *questions(8, 8, 8, 1), need(3, (0, 2), (2, 2))]
        self.assertEqual(after(before, ever(3), always(3), MOST), [[1, 0, 0, 1], [0, 0, 0, 0], [4]])

    def test_named_by_q_alone(self):
        self.assertEqual(after(JUST_512, ever(3), always(3)), [[-75], [-75]])

    def test_named_only_by_one_behind_q(self):
        before = [BEGIN, *questions(8, 8, 8, 2, 1), need(4, (0, 1), (1, 1), (2, 1))]
        self.assertEqual(after(before, ever(3), always(3), ever(4), always(4)), [[-75]] * 4)

    def test_named_partly_by_q_and_partly_behind(self):
        before = [BEGIN, *questions(8, 8, 8, 2, 1), need(3, (0, 1), (1, 1)), need(4, (2, 1))]
        self.assertEqual(after(before, ever(3), always(3)), [[-75], [-75]])
        before = [BEGIN, *questions(8, 8, 8, 2, 1), need(3, (0, 1), (1, 1)), need(4, (1, 1))]
        self.assertEqual(after(before, ever(3), always(3)), [[1, 0, 0, 0], [0, 1, 1, 0]])

    def test_in_several_needs(self):
        before = [BEGIN, *questions(8, 8, 8, 1), need(3, (0, 1)), need(3, (1, 1)), need(3, (2, 1))]
        self.assertEqual(after(before, ever(3), always(3), MOST), [[-75]] * 3)

    def test_by_any_set(self):
        for bits in (0, 255, 256, 511):
            with self.subTest(bits=bits):
                before = [BEGIN, *questions(8, 8, 8, 1), need(3, (0, bits), (1, bits), (2, bits))]
                self.assertEqual(after(before, ever(3), always(3), MOST), [[-75]] * 3)

    def test_not_by_a_refused_need(self):
        before = [BEGIN, *questions(8, 8, 8, 1)]
        refused = [need(3, (0, 1), (1, 1), (2, 1), (3, 1)), need(3, (0, 1), (1, 1), (2, 512)), need(4, (0, 1), (1, 1))]
        rows = after(before, *refused, ever(3), always(3), MOST)
        self.assertEqual(rows, [[-22], [-22], [-2], [1, 0, 0, 0], [1], [4]])

    def test_not_by_a_need_without_room(self):
        before = [BEGIN, *questions(8, 8, 8, 1), *[need(3, (0, 1))] * 4]
        self.assertEqual(after(before, NAMES, ever(3), MOST), [[-28], [1, 0, 0, 0], [4]])


class Refusals(unittest.TestCase):
    def test_early_questions_are_told_where_most_is_not(self):
        rows = after(JUST_512, ever(0), always(0), ever(1), always(1), ever(2), always(2), MOST)
        self.assertEqual(rows, [[1], [1], [1, 0], [1], [1, 0, 0], [1], [-75]])

    def test_no_question_ahead_of_too_many(self):
        self.assertEqual(after(JUST_512, ever(4), always(4), ever(LARGEST), always(LARGEST)), [[-2]] * 4)

    def test_too_many_ahead_of_never_asked(self):
        before = JUST_512 + [question(1), need(4, (0, 0))]
        self.assertEqual(after(before, ever(4), always(4)), [[-75], [-75]])

    def test_too_many_ahead_of_always_asked(self):
        before = JUST_512 + [question(1)]
        self.assertEqual(after(before, ever(4), always(4)), [[-75], [-75]])

    def test_needs_make_it_too_many(self):
        before = [BEGIN, *questions(8, 8, 8, 1)]
        rows = after(before, ever(3), always(3), MOST, NAMES, ever(3), always(3), MOST)
        self.assertEqual(rows, [[1, 0, 0, 0], [1], [4], [1], [-75], [-75], [-75]])

    def test_a_need_makes_it_few_again(self):
        rows = after(JUST_512, MOST, need(2, (0, 0)), MOST, ever(3))
        self.assertEqual(rows, [[-75], [1], [3], [1, 0, 0, 8]])

    def test_begin_makes_it_few_again(self):
        rows = after(JUST_512, MOST, BEGIN, MOST, *questions(8, 8, 8, 1), ever(3), always(3), MOST)
        self.assertEqual(rows, [[-75], [0], [0], [0], [1], [2], [3], [1, 0, 0, 0], [1], [4]])

    def test_given_answers_do_not_make_it_few(self):
        before = JUST_512 + [answer(0, 0), answer(1, 0), answer(2, 0)]
        self.assertEqual(after(before, ever(3), always(3), MOST), [[-75]] * 3)

    def test_changes_nothing(self):
        before = JUST_512 + [answer(0, 0)]
        rows = after(before, ever(3), always(3), MOST, NEXT, RESULT, forget(0), NEXT, need(3, (0, 1)))
        self.assertEqual(rows, [[-75]] * 3 + [[1, 1], [1, 0, 0], [0], [1, 0], [2]])


if __name__ == "__main__":
    unittest.main()
