import unittest

import askedjust.desk
from tests.lines import BEGIN, LARGEST, NEXT, answer, line, need, question, questions

LONG = line([
    BEGIN, *questions(2, 3, 9, 1), need(1, (0, 2)), need(2, (0, 1), (1, 256)), need(1), NEXT, answer(0, 1),
    answer(1, 2), NEXT, answer(2, 0), answer(7, 0), answer(0, 5), NEXT,
])


class Interface(unittest.TestCase):
    def test_several_calls(self):
        told = askedjust.desk.answers([0, 1, 2, 1, 2, 2, 1, 2, 0, 2, 3, 4, 1, 0, 4, 0, 1, 3, 4, 1, 0, 3])
        self.assertEqual(told, [1, 0, 1, 0, 1, 1, 1, 1, 2, 1, 0, 1, -16, 1, 0, 2, 1, 1, 1, 0, 1, 0])

    def test_refusals_stand_alone(self):
        told = askedjust.desk.answers([0, 1, 0, 2, 0, 2, 0, 1, 4, 0, 0])
        self.assertEqual(told, [1, 0, 1, -22, 1, -2, 1, -2])

    def test_need_without_conditions_among_others(self):
        told = askedjust.desk.answers([0, 1, 2, 2, 0, 0, 3])
        self.assertEqual(told, [1, 0, 1, 0, 1, -22, 2, 1, 0])

    def test_refused_needs_are_read_to_their_end(self):
        row = [3, LARGEST] * 10
        told = askedjust.desk.answers([0, 2, 0, 20] + row + [1, 1, 2, 0, 20] + row + [3])
        self.assertEqual(told, [1, 0, 1, -2, 1, 0, 1, -22, 2, 1, 0])

    def test_numbers_that_look_like_calls(self):
        told = askedjust.desk.answers([0, 1, 4, 1, 3, 2, 1, 4, 0, 3, 0, 0, 4, 0, 3, 3])
        self.assertEqual(told, [1, 0, 1, 0, 1, 1, 1, 1, 1, 0, 1, 0])

    def test_what_is_handed_in_is_the_same_afterwards(self):
        calls = list(LONG)
        askedjust.desk.answers(calls)
        self.assertEqual(calls, LONG)

    def test_twice_the_same(self):
        calls = list(LONG)
        first = askedjust.desk.answers(calls)
        kept = list(first)
        self.assertEqual(askedjust.desk.answers(calls), kept)
        self.assertEqual(first, kept)

    def test_nothing_is_kept_between(self):
        askedjust.desk.answers(line([BEGIN, *questions(*[2] * 24), answer(0, 0), need(1, (0, 0))]))
        self.assertEqual(askedjust.desk.answers([0, 3, 4, 0, 0, 1, 2, 3]), [1, 0, 1, 0, 1, -2, 1, 0, 2, 1, 0])

    def test_what_is_given_back_is_nobody_elses(self):
        askedjust.desk.answers([0, 3]).append(7)
        self.assertEqual(askedjust.desk.answers([0, 3]), [1, 0, 1, 0])

    def test_whole_numbers_in_a_list(self):
        told = askedjust.desk.answers(list(LONG))
        self.assertIs(type(told), list)
        self.assertEqual({type(number) for number in told}, {int})

    def test_300_calls(self):
        calls = line([BEGIN, question(8)] + [answer(0, k % 8) for k in range(298)])
        self.assertEqual(askedjust.desk.answers(calls), [1, 0] * 300)

    def test_300_calls_as_long_as_may_be(self):
        full = [BEGIN, *questions(*[8] * 24)]
        full += [need(q, (q - 1, 511), (0, 511), (q // 2, 255), (q - 1, 256)) for q in range(1, 24) for k in range(4)]
        full += [answer(q, 7) for q in range(24)]
        full += [need(23, *[(22, 511)] * 10)] * (300 - len(full))
        told = askedjust.desk.answers(line(full))
        self.assertEqual(told[-2:], [1, -22])
        self.assertEqual(len(told), 600)


if __name__ == "__main__":
    unittest.main()
