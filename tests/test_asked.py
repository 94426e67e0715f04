import itertools
import unittest

from tests.lines import BEGIN, NEXT, after, answer, asked, need, question, questions


class WhenAsked(unittest.TestCase):
    def test_without_needs(self):
        before = [BEGIN, *questions(2, 2, 2)]
        self.assertEqual(asked(before), [0, 1, 2])
        self.assertEqual(asked(before + [answer(1, 0)]), [0, 1, 2])

    def test_each_option_by_its_own_bit(self):
        for o, bit in itertools.product(range(8), range(9)):
            with self.subTest(o=o, bit=bit):
                before = [BEGIN, *questions(8, 1), need(1, (0, 1 << bit)), answer(0, o)]
                self.assertEqual(asked(before), [0, 1] if o == bit else [0])

    def test_set_of_several_options(self):
        for o in range(8):
            with self.subTest(o=o):
                before = [BEGIN, *questions(8, 1), need(1, (0, 0b10100110)), answer(0, o)]
                self.assertEqual(asked(before), [0, 1] if o in (1, 2, 5, 7) else [0])

    def test_all_needs_must_be_met(self):
        before = [BEGIN, *questions(2, 2, 2, 2, 1)] + [need(4, (q, 2)) for q in range(4)]
        for options in itertools.product(range(2), repeat=4):
            with self.subTest(options=options):
                given = [answer(q, o) for q, o in enumerate(options)]
                self.assertEqual(4 in asked(before + given), options == (1, 1, 1, 1))

    def test_one_condition_of_a_need_is_enough(self):
        before = [BEGIN, *questions(2, 2, 2, 2, 1), need(4, *[(q, 2) for q in range(4)])]
        for options in itertools.product(range(2), repeat=4):
            with self.subTest(options=options):
                given = [answer(q, o) for q, o in enumerate(options)]
                self.assertEqual(4 in asked(before + given), 1 in options)

    def test_one_condition_is_enough_though_another_question_waits(self):
        before = [BEGIN, *questions(2, 2, 1), need(2, (0, 1), (1, 1))]
        self.assertEqual(asked(before + [answer(1, 0)]), [0, 1, 2])

    def test_needs_of_several_conditions(self):
        before = [BEGIN, *questions(2, 2, 2, 1), need(3, (0, 2), (1, 2)), need(3, (1, 1), (2, 2))]
        for a, b, c in itertools.product(range(2), repeat=3):
            with self.subTest(options=(a, b, c)):
                given = [answer(0, a), answer(1, b), answer(2, c)]
                wanted = (a == 1 or b == 1) and (b == 0 or c == 1)
                self.assertEqual(3 in asked(before + given), wanted)

    def test_two_conditions_of_one_question(self):
        before = [BEGIN, *questions(4, 1), need(1, (0, 1), (0, 4))]
        for o in range(4):
            with self.subTest(o=o):
                self.assertEqual(asked(before + [answer(0, o)]), [0, 1] if o in (0, 2) else [0])

    def test_two_needs_of_one_question(self):
        before = [BEGIN, *questions(4, 1), need(1, (0, 3)), need(1, (0, 6))]
        for o in range(4):
            with self.subTest(o=o):
                self.assertEqual(asked(before + [answer(0, o)]), [0, 1] if o == 1 else [0])

    def test_by_two_ways(self):
        before = [BEGIN, *questions(3, 2, 1), need(1, (0, 1)), need(2, (0, 2), (1, 2))]
        self.assertEqual(asked(before + [answer(0, 1)]), [0, 2])
        self.assertEqual(asked(before + [answer(0, 0), answer(1, 1)]), [0, 1, 2])
        self.assertEqual(asked(before + [answer(0, 0), answer(1, 0)]), [0, 1])
        self.assertEqual(asked(before + [answer(0, 2)]), [0])


class NotAsked(unittest.TestCase):
    def test_bit_8(self):
        before = [BEGIN, *questions(2, 2, 1), need(1, (0, 2)), need(2, (1, 256))]
        self.assertEqual(asked(before + [answer(0, 0)]), [0, 2])
        for o in range(2):
            self.assertEqual(asked(before + [answer(0, 1), answer(1, o)]), [0, 1])

    def test_without_bit_8(self):
        before = [BEGIN, *questions(2, 2, 1), need(1, (0, 2)), need(2, (1, 255)), answer(0, 0)]
        self.assertEqual(asked(before), [0])

    def test_bit_8_beside_an_option(self):
        before = [BEGIN, *questions(2, 2, 1), need(1, (0, 2)), need(2, (1, 257))]
        self.assertEqual(asked(before + [answer(0, 0)]), [0, 2])
        self.assertEqual(asked(before + [answer(0, 1), answer(1, 0)]), [0, 1, 2])
        self.assertEqual(asked(before + [answer(0, 1), answer(1, 1)]), [0, 1])

    def test_kept_answer_of_one_not_asked_makes_no_condition_hold(self):
        before = [BEGIN, *questions(2, 2, 1), need(1, (0, 2)), need(2, (1, 1))]
        self.assertEqual(asked(before + [answer(0, 1), answer(1, 0), answer(0, 0)]), [0])

    def test_bit_8_for_one_not_asked_that_has_a_kept_answer(self):
        before = [BEGIN, *questions(2, 2, 1), need(1, (0, 2)), need(2, (1, 256))]
        self.assertEqual(asked(before + [answer(0, 1), answer(1, 0), answer(0, 0)]), [0, 2])

    def test_set_of_0_is_never_met(self):
        before = [BEGIN, *questions(2, 1), need(1, (0, 0))]
        self.assertEqual(asked(before), [0])
        for o in range(2):
            self.assertEqual(asked(before + [answer(0, o)]), [0])

    def test_set_of_0_beside_another(self):
        before = [BEGIN, *questions(2, 1), need(1, (0, 0), (0, 2))]
        self.assertEqual(asked(before + [answer(0, 1)]), [0, 1])

    def test_set_of_0_and_one_never_asked(self):
        before = [BEGIN, *questions(2, 1, 1), need(1, (0, 0)), need(2, (1, 0))]
        self.assertEqual(asked(before + [answer(0, 0)]), [0])

    def test_hangs_on_one_never_asked(self):
        before = [BEGIN, *questions(2, 2, 2, 1), need(1, (0, 0)), need(2, (1, 255)), need(3, (2, 255))]
        self.assertEqual(asked(before + [answer(0, 0)]), [0])
        self.assertEqual(after(before, answer(0, 0), NEXT), [[0], [0]])

    def test_needs_that_one_never_asked_is_not_asked(self):
        before = [BEGIN, *questions(2, 2, 2, 2), need(1, (0, 0)), need(2, (1, 256)), need(3, (2, 256))]
        self.assertEqual(asked(before), [0, 2])
        self.assertEqual(asked(before + [answer(0, 0), answer(2, 0)]), [0, 2])

    def test_in_a_row_of_24(self):
        before = [BEGIN, *questions(*[2] * 24), need(1, (0, 0))] + [need(q, (q - 1, 256)) for q in range(2, 24)]
        self.assertEqual(asked(before), [0] + list(range(2, 24, 2)))


class Waiting(unittest.TestCase):
    """A question that is asked and isn't answered yet."""

    def test_without_bit_8(self):
        self.assertEqual(asked([BEGIN, *questions(2, 1), need(1, (0, 255))]), [0])

    def test_with_bit_8(self):
        before = [BEGIN, *questions(2, 1), need(1, (0, 511))]
        self.assertEqual(asked(before), [0])
        self.assertEqual(after(before, answer(1, 0), answer(0, 1), answer(1, 0)), [[-16], [0], [0]])

    def test_bit_8_alone(self):
        self.assertEqual(asked([BEGIN, *questions(2, 1), need(1, (0, 256))]), [0])

    def test_one_behind_it_counts_as_not_asked(self):
        before = [BEGIN, *questions(2, 2, 1), need(1, (0, 2)), need(2, (1, 256))]
        self.assertEqual(asked(before), [0, 2])

    def test_next_tells_it(self):
        before = [BEGIN, *questions(2, 1), need(1, (0, 511))]
        self.assertEqual(after(before, NEXT, answer(0, 0), NEXT), [[1, 0], [0], [1, 1]])


class Kept(unittest.TestCase):
    def test_changed_and_changed_back(self):
        before = [BEGIN, *questions(2, 2, 2), need(1, (0, 2)), need(2, (1, 2))]
        filled = before + [answer(0, 1), answer(1, 1), answer(2, 0)]
        self.assertEqual(asked(filled), [0, 1, 2])
        self.assertEqual(asked(filled + [answer(0, 0)]), [0])
        self.assertEqual(asked(filled + [answer(0, 0), answer(0, 1)]), [0, 1, 2])
        self.assertEqual(after(filled, answer(0, 0), NEXT, answer(0, 1), NEXT), [[0]] * 4)

    def test_till_answered_otherwise(self):
        before = [BEGIN, *questions(2, 2, 2), need(1, (0, 2)), need(2, (1, 2)), answer(0, 1), answer(1, 1)]
        calls = before + [answer(0, 0), answer(0, 1), answer(1, 0)]
        self.assertEqual(asked(calls), [0, 1])

    def test_needs_behind_answers(self):
        before = [BEGIN, *questions(2, 2, 2), answer(0, 0), answer(1, 1)]
        self.assertEqual(after(before, NEXT, need(1, (0, 2)), answer(1, 0), NEXT), [[1, 2], [1], [-16], [1, 2]])
        self.assertEqual(after(before, need(1, (0, 2)), answer(0, 1), NEXT), [[1], [0], [1, 2]])

    def test_needs_behind_answers_reach_those_that_hang_on_them(self):
        before = [BEGIN, *questions(2, 2, 2), need(2, (1, 2)), answer(0, 0), answer(1, 1)]
        self.assertEqual(asked(before), [0, 1, 2])
        self.assertEqual(asked(before + [need(1, (0, 2))]), [0])
        self.assertEqual(asked(before + [need(1, (0, 2)), answer(0, 1)]), [0, 1, 2])

    def test_needs_behind_answers_that_meet_them(self):
        before = [BEGIN, *questions(2, 2), answer(0, 0), answer(1, 1), need(1, (0, 1))]
        self.assertEqual(asked(before), [0, 1])
        self.assertEqual(after(before, NEXT), [[0]])

    def test_a_question_behind_answers(self):
        before = [BEGIN, question(2), answer(0, 1), question(2), need(1, (0, 2))]
        self.assertEqual(after(before, NEXT), [[1, 1]])


if __name__ == "__main__":
    unittest.main()
