import unittest

from tests.lines import BEGIN, LARGEST, NEXT, RESULT, after, answer, asked, forget, need, question, questions

THREE = [BEGIN, *questions(2, 3, 2)]
CHAIN = THREE + [need(1, (0, 2)), need(2, (1, 4))]
FILLED = CHAIN + [answer(0, 1), answer(1, 2), answer(2, 1)]


class Forget(unittest.TestCase):
    def test_an_answer(self):
        self.assertEqual(after(THREE, answer(1, 2), forget(1)), [[0], [0]])

    def test_an_answer_of_0(self):
        self.assertEqual(after(THREE, answer(1, 0), forget(1)), [[0], [0]])

    def test_no_question(self):
        self.assertEqual(after([BEGIN], forget(0)), [[-2]])
        self.assertEqual(after(THREE, answer(2, 0), forget(3), forget(LARGEST), forget(2)), [[0], [-2], [-2], [0]])

    def test_no_answer(self):
        self.assertEqual(after(THREE, forget(0), forget(1), forget(2)), [[-6]] * 3)

    def test_no_answer_of_one_not_asked(self):
        self.assertEqual(after(CHAIN, answer(0, 0), forget(1)), [[0], [-6]])

    def test_no_answer_where_it_was_refused(self):
        self.assertEqual(after(CHAIN, answer(0, 2), forget(0), answer(1, 0), forget(1)), [[-22], [-6], [-16], [-6]])

    def test_no_answer_behind_begin(self):
        self.assertEqual(after(FILLED, BEGIN, question(2), forget(0)), [[0], [0], [-6]])

    def test_twice(self):
        self.assertEqual(after(THREE, answer(0, 1), forget(0), forget(0)), [[0], [0], [-6]])

    def test_twice_with_an_answer_between(self):
        rows = after(THREE, answer(0, 1), forget(0), answer(0, 0), forget(0), forget(0))
        self.assertEqual(rows, [[0], [0], [0], [0], [-6]])

    def test_it_alone(self):
        before = THREE + [answer(0, 1), answer(1, 2), answer(2, 1), forget(1)]
        self.assertEqual(after(before, RESULT, forget(0), forget(2)), [[2, 0, 1, 2, 1], [0], [0]])

    def test_next_tells_it_again(self):
        before = THREE + [answer(0, 1), answer(1, 2), answer(2, 1)]
        self.assertEqual(after(before, NEXT, forget(1), NEXT, forget(0), NEXT), [[0], [0], [1, 1], [0], [1, 0]])

    def test_what_hangs_on_it_is_not_asked(self):
        self.assertEqual(asked(FILLED), [0, 1, 2])
        self.assertEqual(asked(FILLED + [forget(1)]), [0, 1])
        self.assertEqual(asked(FILLED + [forget(0)]), [0])

    def test_what_needs_that_another_is_not_asked(self):
        before = THREE + [need(1, (0, 2)), need(2, (1, 256)), answer(0, 1), answer(1, 0)]
        self.assertEqual(asked(before), [0, 1])
        self.assertEqual(asked(before + [forget(0)]), [0, 2])

    def test_it_is_no_part_of_the_result(self):
        self.assertEqual(after(FILLED, forget(2), RESULT), [[0], [2, 0, 1, 1, 2]])
        self.assertEqual(after(FILLED, forget(1), RESULT), [[0], [1, 0, 1]])
        self.assertEqual(after(FILLED, forget(0), RESULT), [[0], [0]])

    def test_in_the_midst_and_answered_again(self):
        rows = after(FILLED, forget(1), NEXT, answer(1, 2), NEXT, RESULT)
        self.assertEqual(rows, [[0], [1, 1], [0], [0], [3, 0, 1, 1, 2, 2, 1]])

    def test_in_the_midst_and_answered_otherwise(self):
        rows = after(FILLED, forget(1), answer(1, 0), NEXT, RESULT, answer(1, 2), RESULT)
        self.assertEqual(rows, [[0], [0], [0], [2, 0, 1, 1, 0], [0], [3, 0, 1, 1, 2, 2, 1]])

    def test_a_kept_answer_of_one_not_asked(self):
        rows = after(FILLED, answer(0, 0), forget(1), forget(1), answer(0, 1), NEXT, RESULT)
        self.assertEqual(rows, [[0], [0], [-6], [0], [1, 1], [1, 0, 1]])

    def test_a_kept_answer_of_one_not_asked_leaves_those_behind_it(self):
        rows = after(FILLED, answer(0, 0), forget(1), answer(0, 1), answer(1, 2), NEXT, RESULT)
        self.assertEqual(rows, [[0], [0], [0], [0], [0], [3, 0, 1, 1, 2, 2, 1]])

    def test_refused_changes_nothing(self):
        rows = after(FILLED, forget(3), RESULT, forget(2), forget(2), NEXT, RESULT)
        self.assertEqual(rows, [[-2], [3, 0, 1, 1, 2, 2, 1], [0], [-6], [1, 2], [2, 0, 1, 1, 2]])

    def test_needs_stay(self):
        before = FILLED + [forget(0), forget(1), forget(2), answer(0, 1), answer(1, 1)]
        self.assertEqual(asked(before), [0, 1])


class Result(unittest.TestCase):
    def test_none(self):
        self.assertEqual(after([BEGIN], RESULT), [[0]])
        self.assertEqual(after(THREE, RESULT), [[0]])

    def test_one_question(self):
        self.assertEqual(after([BEGIN, question(8)], answer(0, 7), RESULT), [[0], [1, 0, 7]])

    def test_in_order_of_the_questions(self):
        rows = after(THREE, answer(2, 1), RESULT, answer(0, 0), RESULT, answer(1, 2), RESULT)
        self.assertEqual(rows, [[0], [1, 2, 1], [0], [2, 0, 0, 2, 1], [0], [3, 0, 0, 1, 2, 2, 1]])

    def test_asking_changes_nothing(self):
        self.assertEqual(after(FILLED, RESULT, RESULT, NEXT), [[3, 0, 1, 1, 2, 2, 1]] * 2 + [[0]])

    def test_the_last_answer(self):
        self.assertEqual(after(THREE, answer(1, 2), answer(1, 1), answer(1, 3), RESULT)[-1], [1, 1, 1])

    def test_those_not_asked_have_no_part(self):
        before = THREE + [need(1, (0, 2)), answer(0, 1), answer(1, 2), answer(2, 1)]
        self.assertEqual(after(before, RESULT, answer(0, 0), RESULT), [[3, 0, 1, 1, 2, 2, 1], [0], [2, 0, 0, 2, 1]])

    def test_those_that_hang_on_one_not_asked_have_no_part(self):
        self.assertEqual(after(FILLED, answer(0, 0), RESULT), [[0], [1, 0, 0]])

    def test_changed_and_changed_back(self):
        rows = after(FILLED, answer(0, 0), RESULT, answer(0, 1), RESULT)
        self.assertEqual(rows, [[0], [1, 0, 0], [0], [3, 0, 1, 1, 2, 2, 1]])

    def test_changed_in_the_midst_and_changed_back(self):
        rows = after(FILLED, answer(1, 1), RESULT, answer(1, 2), RESULT)
        self.assertEqual(rows, [[0], [2, 0, 1, 1, 1], [0], [3, 0, 1, 1, 2, 2, 1]])

    def test_a_need_that_comes_behind_answers(self):
        before = THREE + [answer(0, 0), answer(1, 1)]
        rows = after(before, need(1, (0, 2)), RESULT, answer(0, 1), RESULT)
        self.assertEqual(rows, [[1], [1, 0, 0], [0], [2, 0, 1, 1, 1]])

    def test_begin_leaves_none(self):
        self.assertEqual(after(FILLED, BEGIN, RESULT, *questions(2, 3, 2), RESULT)[1:], [[0], [0], [1], [2], [0]])

    def test_24_questions(self):
        before = [BEGIN, *questions(*[8] * 24)] + [answer(q, q % 8) for q in reversed(range(24))]
        wanted = [24] + [number for q in range(24) for number in (q, q % 8)]
        self.assertEqual(after(before, RESULT), [wanted])


if __name__ == "__main__":
    unittest.main()
