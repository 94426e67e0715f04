import unittest

from tests.lines import BEGIN, LARGEST, NEXT, after, answer, asked, need, questions

TWO = [BEGIN, *questions(2, 2)]
SIX = [BEGIN, *questions(2, 2, 2, 2, 2, 2)]


class HowMany(unittest.TestCase):
    def test_from_1_to_4(self):
        rows = after(TWO, *[need(1, (0, 1))] * 6)
        self.assertEqual(rows, [[1], [2], [3], [4], [-28], [-28]])

    def test_each_question_has_its_own(self):
        rows = after(SIX, need(1, (0, 1)), need(2, (0, 1)), need(2, (1, 1)), need(1, (0, 2)), need(5, (4, 1)))
        self.assertEqual(rows, [[1], [1], [2], [2], [1]])


class Conditions(unittest.TestCase):
    def test_how_many(self):
        for count in range(11):
            with self.subTest(count=count):
                conditions = [(k % 5, 1) for k in range(count)]
                wanted = [1] if 1 <= count <= 4 else [-22]
                self.assertEqual(after(SIX, need(5, *conditions)), [wanted])

    def test_question_must_be_before(self):
        for named in range(6):
            with self.subTest(named=named):
                wanted = [1] if named < 3 else [-22]
                self.assertEqual(after(SIX, need(3, (named, 1))), [wanted])

    def test_question_that_is_not_there(self):
        self.assertEqual(after(SIX, need(3, (6, 1)), need(3, (LARGEST, 1))), [[-22], [-22]])

    def test_first_question_can_name_none(self):
        self.assertEqual(after(SIX, need(0, (0, 1)), need(0, (5, 511)), need(0)), [[-22]] * 3)

    def test_set(self):
        for bits in (0, 1, 255, 256, 510, 511):
            with self.subTest(bits=bits):
                self.assertEqual(after(TWO, need(1, (0, bits))), [[1]])
        for bits in (512, 513, 1023, 1024, LARGEST):
            with self.subTest(bits=bits):
                self.assertEqual(after(TWO, need(1, (0, bits))), [[-22]])

    def test_wrong_one_at_any_place(self):
        for wrong in ((3, 1), (4, 1), (0, 512), (LARGEST, LARGEST)):
            for place in range(4):
                with self.subTest(wrong=wrong, place=place):
                    conditions = [(0, 1), (1, 1), (2, 1), (0, 2)]
                    conditions[place] = wrong
                    self.assertEqual(after(SIX, need(3, *conditions)), [[-22]])

    def test_all_four_may_name_one_question(self):
        self.assertEqual(after(TWO, need(1, (0, 1), (0, 1), (0, 2), (0, 0))), [[1]])


class Refusals(unittest.TestCase):
    def test_no_question(self):
        rows = after(TWO, need(2, (0, 1)), need(LARGEST, (0, 1)))
        self.assertEqual(rows, [[-2], [-2]])

    def test_no_question_in_an_empty_form(self):
        self.assertEqual(after([BEGIN], need(0, (0, 1))), [[-2]])

    def test_no_question_ahead_of_wrong_conditions(self):
        rows = after(TWO, need(2), need(2, (2, 1)), need(2, (0, 512)), need(2, *[(0, 1)] * 5))
        self.assertEqual(rows, [[-2]] * 4)

    def test_wrong_conditions_ahead_of_no_room(self):
        full = TWO + [need(1, (0, 1))] * 4
        rows = after(full, need(1), need(1, (1, 1)), need(1, (0, 512)), need(1, *[(0, 1)] * 5), need(1, (0, 1)))
        self.assertEqual(rows, [[-22]] * 4 + [[-28]])

    def test_no_question_ahead_of_all(self):
        full = TWO + [need(1, (0, 1))] * 4
        self.assertEqual(after(full, need(2, (9, 512))), [[-2]])

    def test_wrong_conditions_change_nothing(self):
        wrong = [need(1), need(1, (1, 0)), need(1, (0, 512)), need(1, *[(0, 0)] * 5), need(1, *[(0, 0)] * 10)]
        for call in wrong:
            with self.subTest(call=call):
                self.assertEqual(asked(TWO + [call]), [0, 1])
                self.assertEqual(after(TWO + [call], need(1, (0, 1))), [[1]])

    def test_no_room_changes_nothing(self):
        full = TWO + [need(1, (0, 2))] * 4 + [answer(0, 1)]
        self.assertEqual(after(full, need(1, (0, 0)), NEXT, need(1, (0, 0))), [[-28], [1, 1], [-28]])

    def test_no_question_changes_nothing(self):
        before = TWO + [need(2, (0, 0)), *questions(2)]
        self.assertEqual(asked(before), [0, 1, 2])
        self.assertEqual(after(before, need(2, (0, 1))), [[1]])


if __name__ == "__main__":
    unittest.main()
