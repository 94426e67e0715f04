import unittest

import askedjust.desk
from tests.lines import (BEGIN, LARGEST, MOST, NEXT, RESULT, always, answer, ever, forget, line, need, question,
                         questions)

LONG = line([
    BEGIN, *questions(2, 3, 9, 1), need(1, (0, 2)), need(2, (0, 1), (1, 256)), need(1), NEXT, answer(0, 1),
    answer(1, 2), NEXT, answer(2, 0), answer(7, 0), answer(0, 5), NEXT, RESULT, ever(2), always(2), MOST, forget(1),
    forget(1), forget(4), RESULT, ever(4), always(0), ever(1), always(1), MOST,
])


class Interface(unittest.TestCase):
    def test_several_calls(self):
        told = askedjust.desk.answers([0, 1, 2, 1, 2, 2, 1, 2, 0, 2, 3, 4, 1, 0, 4, 0, 1, 3, 4, 1, 0, 3])
        self.assertEqual(told, [1, 0, 1, 0, 1, 1, 1, 1, 2, 1, 0, 1, -16, 1, 0, 2, 1, 1, 1, 0, 1, 0])

    def test_all_ten_kinds(self):
        told = askedjust.desk.answers([
            0, 1, 2, 1, 3, 2, 1, 2, 0, 2, 3, 4, 0, 1, 4, 1, 2, 6, 7, 1, 8, 1, 9, 5, 1, 6, 3, 7, 0, 8, 0,
        ])
        self.assertEqual(told, [
            1, 0, 1, 0, 1, 1, 1, 1, 2, 1, 0, 1, 0, 1, 0, 5, 2, 0, 1, 1, 2, 2, 1, 1, 2, 0, 0, 1, 2, 1, 0,
            3, 1, 0, 1, 2, 1, 1, 1, 1, 1, 1,
        ])

    def test_all_ten_kinds_in_one_line(self):
        kinds = set()
        at = 0
        while at < len(LONG):
            kinds.add(LONG[at])
            at += (1, 2, 3, 1, 3, 2, 1, 2, 2, 1)[LONG[at]] + (LONG[at + 2] if LONG[at] == 2 else 0)
        self.assertEqual(kinds, set(range(10)))
        self.assertEqual(askedjust.desk.answers(list(LONG)), [
            1, 0, 1, 0, 1, 1, 1, -22, 1, 2, 1, 1, 1, 1, 1, -22, 2, 1, 0, 1, 0,
            1, 0, 1, 0, 1, -16, 1, -2, 1, -22, 1, 0, 5, 2, 0, 1, 1, 2, 3, 1, 0, 8, 3, 0, 1, 0, 1, 2, 1, 0,
            1, -6, 1, -2, 3, 1, 0, 1, 1, -2, 1, 1, 2, 1, 1, 2, 0, 0, 1, 2,
        ])

    def test_refusals_of_all_kinds_stand_alone(self):
        many = [0, 1, 8, 1, 8, 1, 8, 1, 1, 2, 3, 6, 0, 0, 1, 0, 2, 0]
        told = askedjust.desk.answers(many + [7, 3, 8, 3, 9, 7, 4, 8, 4, 5, 3, 5, 4, 4, 3, 0, 4, 0, 8])
        self.assertEqual(told, [
            1, 0, 1, 0, 1, 1, 1, 2, 1, 3, 1, 1, 1, -75, 1, -75, 1, -75, 1, -2, 1, -2, 1, -6, 1, -2, 1, -16, 1, -22,
        ])

    def test_refusals_stand_alone(self):
        told = askedjust.desk.answers([0, 1, 0, 2, 0, 2, 0, 1, 4, 0, 0])
        self.assertEqual(told, [1, 0, 1, -22, 1, -2, 1, -2])

    def test_need_without_conditions_among_others(self):
        told = askedjust.desk.answers([0, 1, 2, 2, 0, 0, 3])
        self.assertEqual(told, [1, 0, 1, 0, 1, -22, 2, 1, 0])

    def test_refused_needs_are_read_to_their_end(self):
        row = [3, LARGEST] * 10
        told = askedjust.desk.answers([0, 2, 0, 20] + row + [1, 1, 2, 0, 20] + row + [3])
        self.assertEqual(told, [1, 0, 1, -2, 1, 0, 1, -22, 2, 1, 0])

    def test_numbers_that_look_like_calls(self):
        told = askedjust.desk.answers([0, 1, 4, 1, 3, 2, 1, 4, 0, 3, 0, 0, 4, 0, 3, 3])
        self.assertEqual(told, [1, 0, 1, 0, 1, 1, 1, 1, 1, 0, 1, 0])

    def test_what_is_handed_in_is_the_same_afterwards(self):
        calls = list(LONG)
        askedjust.desk.answers(calls)
        self.assertEqual(calls, LONG)

    def test_twice_the_same(self):
        calls = list(LONG)
        first = askedjust.desk.answers(calls)
        kept = list(first)
        self.assertEqual(askedjust.desk.answers(calls), kept)
        self.assertEqual(first, kept)

    def test_nothing_is_kept_between(self):
        askedjust.desk.answers(line([BEGIN, *questions(*[2] * 24), answer(0, 0), need(1, (0, 0))]))
        self.assertEqual(askedjust.desk.answers([0, 3, 4, 0, 0, 1, 2, 3]), [1, 0, 1, 0, 1, -2, 1, 0, 2, 1, 0])

    def test_what_is_given_back_is_nobody_elses(self):
        askedjust.desk.answers([0, 3]).append(7)
        self.assertEqual(askedjust.desk.answers([0, 3]), [1, 0, 1, 0])
        askedjust.desk.answers(list(LONG)).clear()
        self.assertEqual(askedjust.desk.answers([0, 6, 9]), [1, 0, 1, 0, 1, 0])

    def test_whole_numbers_in_a_list(self):
        told = askedjust.desk.answers(list(LONG))
        self.assertIs(type(told), list)
        self.assertEqual({type(number) for number in told}, {int})

    def test_300_calls(self):
        calls = line([BEGIN, question(8)] + [answer(0, k % 8) for k in range(298)])
        self.assertEqual(askedjust.desk.answers(calls), [1, 0] * 300)

    def test_300_calls_as_long_as_may_be(self):
        full = [BEGIN, *questions(*[8] * 24)]
        full += [need(q, (q - 1, 511), (0, 511), (q // 2, 255), (q - 1, 256)) for q in range(1, 24) for k in range(4)]
        full += [answer(q, 7) for q in range(24)]
        full += [need(23, *[(22, 511)] * 10)] * (300 - len(full))
        told = askedjust.desk.answers(line(full))
        self.assertEqual(told[-2:], [1, -22])
        self.assertEqual(len(told), 600)

    def test_300_calls_with_ways_as_many_as_may_be(self):
        # Four behind one another of four options, again and again: 256 ways are told apart, question by question.
        full = [BEGIN, *questions(*[4] * 24)]
        full += [need(q, *[(p, 7) for p in range(max(q - 4, 0), q)]) for q in range(1, 24)]
        full += [ever(23), always(23), MOST] * 84
        told = askedjust.desk.answers(line(full))
        self.assertEqual(len(full), 300)
        self.assertEqual(told[-52:], [24, 1] + [0] * 23 + [24, 0] + [0] * 19 + [3, 3, 3, 3] + [1, 24])


if __name__ == "__main__":
    unittest.main()
