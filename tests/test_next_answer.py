import unittest

from tests.lines import BEGIN, LARGEST, NEXT, after, answer, asked, need, question, questions

THREE = [BEGIN, *questions(2, 3, 2)]


class Next(unittest.TestCase):
    def test_no_questions(self):
        self.assertEqual(after([BEGIN], NEXT), [[0]])

    def test_one_question(self):
        before = [BEGIN, question(1)]
        self.assertEqual(after(before, NEXT, answer(0, 0), NEXT), [[1, 0], [0], [0]])

    def test_first_without_answer(self):
        rows = after(THREE, NEXT, answer(1, 0), NEXT, answer(0, 0), NEXT, answer(2, 0), NEXT)
        self.assertEqual(rows, [[1, 0], [0], [1, 0], [0], [1, 2], [0], [0]])

    def test_an_answer_of_0_is_an_answer(self):
        self.assertEqual(after(THREE, answer(0, 0), NEXT), [[0], [1, 1]])

    def test_asking_changes_nothing(self):
        self.assertEqual(after(THREE, NEXT, NEXT, NEXT), [[1, 0]] * 3)

    def test_those_not_asked_are_passed_over(self):
        before = THREE + [need(1, (0, 2))]
        self.assertEqual(after(before, answer(0, 0), NEXT), [[0], [1, 2]])
        self.assertEqual(after(before, answer(0, 1), NEXT), [[0], [1, 1]])

    def test_through_though_one_is_not_answered(self):
        before = THREE + [need(2, (0, 2)), answer(0, 0), answer(1, 2)]
        self.assertEqual(after(before, NEXT), [[0]])

    def test_again_not_through_by_a_new_question(self):
        before = [BEGIN, question(1), answer(0, 0)]
        self.assertEqual(after(before, NEXT, question(1), NEXT), [[0], [1], [1, 1]])

    def test_24_questions(self):
        calls = [BEGIN, *questions(*[8] * 24)]
        for q in range(24):
            self.assertEqual(after(calls, NEXT), [[1, q]])
            calls.append(answer(q, q % 8))
        self.assertEqual(after(calls, NEXT), [[0]])


class Answer(unittest.TestCase):
    def test_no_question(self):
        self.assertEqual(after([BEGIN], answer(0, 0)), [[-2]])
        self.assertEqual(after(THREE, answer(2, 0), answer(3, 0), answer(LARGEST, 0)), [[0], [-2], [-2]])

    def test_not_asked(self):
        before = THREE + [need(1, (0, 2)), answer(0, 0)]
        self.assertEqual(after(before, answer(1, 0)), [[-16]])

    def test_no_option(self):
        rows = after(THREE, answer(1, 2), answer(1, 3), answer(1, 8), answer(1, LARGEST), answer(0, 2))
        self.assertEqual(rows, [[0], [-22], [-22], [-22], [-22]])

    def test_no_question_ahead_of_no_option(self):
        self.assertEqual(after(THREE, answer(3, 9), answer(LARGEST, LARGEST)), [[-2], [-2]])

    def test_not_asked_ahead_of_no_option(self):
        before = THREE + [need(1, (0, 2)), answer(0, 0)]
        self.assertEqual(after(before, answer(1, 3), answer(1, LARGEST)), [[-16], [-16]])

    def test_in_any_order(self):
        self.assertEqual(after(THREE, answer(2, 1), answer(0, 1), NEXT), [[0], [0], [1, 1]])

    def test_again_the_same(self):
        self.assertEqual(after(THREE, answer(0, 1), answer(0, 1), NEXT), [[0], [0], [1, 1]])

    def test_again_otherwise(self):
        before = THREE + [need(1, (0, 1)), need(2, (0, 2))]
        self.assertEqual(asked(before + [answer(0, 0)]), [0, 1])
        self.assertEqual(asked(before + [answer(0, 0), answer(0, 1)]), [0, 2])

    def test_no_option_changes_nothing(self):
        before = THREE + [need(1, (0, 1)), need(2, (0, 2))]
        self.assertEqual(after(before, answer(0, 2), NEXT), [[-22], [1, 0]])
        self.assertEqual(asked(before + [answer(0, 1), answer(0, 2)]), [0, 2])

    def test_not_asked_changes_nothing(self):
        before = THREE + [need(1, (0, 2)), answer(0, 0), answer(1, 1), answer(0, 1)]
        self.assertEqual(after(before, NEXT), [[1, 1]])

    def test_not_asked_leaves_the_kept_answer(self):
        before = THREE + [need(1, (0, 2)), need(2, (1, 2))]
        calls = before + [answer(0, 1), answer(1, 1), answer(0, 0), answer(1, 0), answer(0, 1)]
        self.assertEqual(asked(calls), [0, 1, 2])

    def test_no_question_changes_nothing(self):
        before = [BEGIN, question(2), answer(1, 0), question(2), answer(0, 0)]
        self.assertEqual(after(before, NEXT), [[1, 1]])


if __name__ == "__main__":
    unittest.main()
