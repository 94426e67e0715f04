"""The corners that the document lists, each of them by all the calls that tell of it."""

import unittest

from tests.lines import (BEGIN, MOST, NEXT, RESULT, after, always, answer, asked, ever, forget, need, question,
                         questions)


class Corners(unittest.TestCase):
    def test_needs_that_another_is_not_asked(self):
        before = [BEGIN, *questions(2, 2, 2), need(1, (0, 2)), need(2, (1, 256))]
        self.assertEqual(after(before, ever(2), always(2), MOST), [[1, 0, 8], [0, 1, 0], [2]])
        rows = after(before, answer(0, 0), NEXT, answer(2, 1), RESULT, NEXT, answer(0, 1), NEXT, answer(2, 0), RESULT)
        self.assertEqual(rows, [[0], [1, 2], [0], [2, 0, 0, 2, 1], [0], [0], [1, 1], [-16], [1, 0, 1]])

    def test_never_asked_and_one_that_hangs_on_that(self):
        before = [BEGIN, *questions(2, 2, 2, 2), need(1, (0, 1)), need(1, (0, 2)), need(2, (1, 3)), need(3, (2, 256))]
        self.assertEqual(after(before, ever(1), ever(2), ever(3)), [[0], [0], [1, 0, 8, 8]])
        self.assertEqual(after(before, always(1), always(2), always(3), MOST), [[0, 0], [0, 0, 8], [1], [2]])
        rows = after(before, answer(0, 1), answer(1, 0), answer(2, 0), NEXT, answer(3, 0), NEXT, RESULT)
        self.assertEqual(rows, [[0], [-16], [-16], [1, 3], [0], [0], [2, 0, 1, 3, 0]])

    def test_changed_so_that_others_are_not_asked_and_changed_back(self):
        before = [BEGIN, *questions(2, 2, 2, 2), need(1, (0, 2)), need(2, (1, 2)), need(3, (0, 1))]
        filled = before + [answer(0, 1), answer(1, 1), answer(2, 0)]
        rows = after(filled, NEXT, RESULT, answer(0, 0), NEXT, RESULT, answer(3, 1), answer(0, 1), NEXT, RESULT)
        whole = [3, 0, 1, 1, 1, 2, 0]
        self.assertEqual(rows, [[0], whole, [0], [1, 3], [1, 0, 0], [0], [0], [0], whole])
        self.assertEqual(after(filled, answer(0, 0), answer(3, 1), RESULT)[-1], [2, 0, 0, 3, 1])

    def test_a_set_of_0(self):
        before = [BEGIN, *questions(2, 2, 2), need(1, (0, 0)), need(2, (1, 0), (0, 2))]
        self.assertEqual(after(before, ever(1), always(1), ever(2), always(2)), [[0], [0, 0], [1, 1, 8], [0, 0, 8]])
        rows = after(before, MOST, answer(0, 1), answer(1, 0), NEXT, answer(2, 0), RESULT)
        self.assertEqual(rows, [[2], [0], [-16], [1, 2], [0], [2, 0, 1, 2, 0]])

    def test_two_conditions_of_one_question(self):
        before = [BEGIN, *questions(4, 2), need(1, (0, 2), (0, 8))]
        self.assertEqual(after(before, ever(1), always(1), MOST), [[1, 1], [0, 0], [2]])
        for o in range(4):
            rows = after(before, answer(0, o), answer(1, 0), RESULT)
            wanted = [[0], [0], [2, 0, o, 1, 0]] if o in (1, 3) else [[0], [-16], [1, 0, o]]
            self.assertEqual(rows, wanted)

    def test_asked_by_two_ways(self):
        before = [BEGIN, *questions(3, 2, 2), need(1, (0, 2)), need(2, (0, 4), (1, 2))]
        self.assertEqual(after(before, ever(2), always(2), MOST), [[1, 1, 1], [0, 0, 8], [3]])
        one = before + [answer(0, 1), answer(1, 1), answer(2, 1)]
        rows = after(one, RESULT, answer(0, 2), RESULT, answer(0, 0), RESULT)
        self.assertEqual(rows, [[3, 0, 1, 1, 1, 2, 1], [0], [2, 0, 2, 2, 1], [0], [1, 0, 0]])

    def test_forgotten_in_the_midst(self):
        before = [BEGIN, *questions(2, 2, 2), need(2, (1, 2)), answer(0, 0), answer(1, 1), answer(2, 0)]
        rows = after(before, forget(1), NEXT, RESULT, answer(2, 1), ever(2), answer(1, 1), NEXT, RESULT)
        self.assertEqual(rows, [[0], [1, 1], [1, 0, 0], [-16], [1, 0, 1], [0], [0], [3, 0, 0, 1, 1, 2, 0]])

    def test_24_questions(self):
        before = [BEGIN, *questions(*[2] * 24)] + [need(q, (q - 1, 256 + 2)) for q in range(1, 24)]
        # By option 0 of a question the next one isn't asked, and then the one behind that is.
        self.assertEqual(after(before, ever(23), always(23)), [[1] + [0, 8] * 11 + [1], [0] + [0, 8] * 11 + [0]])
        self.assertEqual(after(before, MOST, question(1)), [[24], [-28]])
        filled = before + [answer(q, 0) for q in range(0, 24, 2)]
        self.assertEqual(asked(filled), list(range(0, 24, 2)))
        self.assertEqual(after(filled, NEXT, RESULT), [[0], [12] + [n for q in range(0, 24, 2) for n in (q, 0)]])

    def test_one_question(self):
        before = [BEGIN, question(3)]
        self.assertEqual(after(before, ever(0), always(0), MOST, NEXT, RESULT), [[1], [1], [1], [1, 0], [0]])
        rows = after(before, answer(0, 2), NEXT, RESULT, forget(0), NEXT, RESULT, ever(1), always(1), forget(1))
        self.assertEqual(rows, [[0], [0], [1, 0, 2], [0], [1, 0], [0], [-2], [-2], [-2]])

    def test_needs_that_come_behind_answers(self):
        before = [BEGIN, *questions(2, 2, 2), answer(0, 0), answer(1, 1), answer(2, 0), ever(1), always(1), MOST]
        rows = after(before, need(1, (0, 2)), need(2, (1, 3)), NEXT, RESULT, ever(2), always(2), MOST)
        self.assertEqual(rows, [[1], [1], [0], [1, 0, 0], [1, 1, 0], [0, 0, 8], [3]])
        rows = after(before, need(1, (0, 2)), need(2, (1, 3)), forget(2), answer(0, 1), NEXT, RESULT)
        self.assertEqual(rows, [[1], [1], [0], [0], [1, 2], [2, 0, 1, 1, 1]])


if __name__ == "__main__":
    unittest.main()
