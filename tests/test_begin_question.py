import unittest

from tests.lines import BEGIN, LARGEST, NEXT, after, answer, asked, need, question, questions, run


class Begin(unittest.TestCase):
    def test_answers_0(self):
        self.assertEqual(run(BEGIN), [[0]])

    def test_again_answers_0(self):
        self.assertEqual(run(BEGIN, BEGIN, BEGIN), [[0], [0], [0]])

    def test_again_leaves_no_questions(self):
        before = [BEGIN, *questions(2, 3), BEGIN]
        self.assertEqual(after(before, NEXT, answer(0, 0), need(1, (0, 1)), question(4)), [[0], [-2], [-2], [0]])

    def test_again_leaves_no_answers(self):
        before = [BEGIN, *questions(2, 2), answer(0, 1), answer(1, 1), BEGIN, *questions(2, 2)]
        self.assertEqual(after(before, NEXT), [[1, 0]])
        self.assertEqual(after(before, answer(0, 0), NEXT), [[0], [1, 1]])

    def test_again_leaves_no_needs(self):
        before = [BEGIN, *questions(2, 2), need(1, (0, 0)), BEGIN, *questions(2, 2)]
        self.assertEqual(asked(before), [0, 1])
        self.assertEqual(after(before, need(1, (0, 1))), [[1]])

    def test_again_makes_room(self):
        before = [BEGIN, *questions(*[1] * 24), BEGIN]
        rows = after(before, *questions(*[1] * 25))
        self.assertEqual(rows, [[q] for q in range(24)] + [[-28]])


class Question(unittest.TestCase):
    def test_numbered_from_0_as_they_come(self):
        self.assertEqual(run(BEGIN, *questions(1, 8, 3, 2)), [[0], [0], [1], [2], [3]])

    def test_how_many_options(self):
        rows = after([BEGIN], *questions(0, 1, 8, 9, LARGEST, 2))
        self.assertEqual(rows, [[-22], [0], [1], [-22], [-22], [2]])

    def test_each_number_of_options(self):
        for n in range(1, 9):
            with self.subTest(n=n):
                before = [BEGIN, question(n)]
                self.assertEqual(after(before, *[answer(0, o) for o in range(n)]), [[0]] * n)
                self.assertEqual(after(before, answer(0, n)), [[-22]])

    def test_24_and_no_more(self):
        rows = after([BEGIN], *questions(*[2] * 26))
        self.assertEqual(rows, [[q] for q in range(24)] + [[-28], [-28]])

    def test_wrong_n_ahead_of_no_room(self):
        before = [BEGIN, *questions(*[2] * 24)]
        self.assertEqual(after(before, *questions(0, 9, LARGEST, 1, 8)), [[-22], [-22], [-22], [-28], [-28]])

    def test_refused_changes_nothing(self):
        before = [BEGIN, question(2), question(0), question(9)]
        self.assertEqual(asked(before), [0])
        self.assertEqual(after(before, answer(1, 0), question(3)), [[-2], [1]])

    def test_refused_for_no_room_changes_nothing(self):
        before = [BEGIN, *questions(*[2] * 25)]
        self.assertEqual(after(before, answer(24, 0), need(24, (0, 1))), [[-2], [-2]])
        self.assertEqual(asked(before), list(range(24)))

    def test_new_one_is_not_answered_and_has_no_needs(self):
        before = [BEGIN, question(2), answer(0, 1), question(2)]
        self.assertEqual(after(before, NEXT, need(1, (0, 1))), [[1, 1], [1]])


if __name__ == "__main__":
    unittest.main()
