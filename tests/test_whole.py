"""Many lines, each answered call by call as the document's words tell it, and what always holds."""

import random
import unittest

from tests.lines import BEGIN, LARGEST, NEXT, after, answer, asked, need, question, questions, run


class Words:
    """The document's words, followed from the question back to those it names."""

    def __init__(self):
        self.forms = []
        self.kept = {}

    def is_asked(self, q):
        return all(any(self.holds(p, s) for p, s in conditions) for conditions in self.forms[q][1])

    def holds(self, p, s):
        if not self.is_asked(p):
            return s & 256 != 0
        return p in self.kept and s & (1 << self.kept[p]) != 0

    def tell(self, call):
        return (self.begin, self.question, self.need, self.next, self.answer)[call[0]](*call[1:])

    def begin(self):
        self.__init__()
        return [0]

    def question(self, n):
        if n not in range(1, 9):
            return [-22]
        if len(self.forms) == 24:
            return [-28]
        self.forms.append((n, []))
        return [len(self.forms) - 1]

    def need(self, q, size, *row):
        conditions = list(zip(row[::2], row[1::2]))
        if q not in range(len(self.forms)):
            return [-2]
        if size not in (2, 4, 6, 8) or any(p >= q or s > 511 for p, s in conditions):
            return [-22]
        if len(self.forms[q][1]) == 4:
            return [-28]
        self.forms[q][1].append(conditions)
        return [len(self.forms[q][1])]

    def next(self):
        for q in range(len(self.forms)):
            if self.is_asked(q) and q not in self.kept:
                return [1, q]
        return [0]

    def answer(self, q, o):
        if q not in range(len(self.forms)):
            return [-2]
        if not self.is_asked(q):
            return [-16]
        if o not in range(self.forms[q][0]):
            return [-22]
        self.kept[q] = o
        return [0]


def some_set(chance):
    return chance.choice([0, 1, 2, 3, 256, 257, 511, chance.randrange(512), chance.randrange(512), 512])


def some_call(chance, count):
    kind = chance.randrange(100)
    if kind < 1:
        return BEGIN
    if kind < 25 or count == 0:
        return question(chance.choice([0, 1, 2, 2, 3, 3, 8, 9, LARGEST]))
    if kind < 50:
        q = chance.randrange(count + 1)
        return need(q, *[(chance.randrange(max(q, 1)), some_set(chance)) for _ in range(chance.choice([1, 1, 2, 3, 5]))])
    if kind < 65:
        return NEXT
    return answer(chance.randrange(count + 1), chance.choice([0, 0, 1, 1, 2, 7, 8]))


def some_line(seed):
    chance = random.Random(seed)
    calls = [BEGIN]
    words = Words()
    wanted = [words.tell(BEGIN)]
    for _ in range(chance.randrange(1, 80)):
        calls.append(some_call(chance, len(words.forms)))
        wanted.append(words.tell(calls[-1]))
    return calls, wanted


class ByTheWords(unittest.TestCase):
    def test_many_lines(self):
        seen = set()
        for seed in range(600):
            calls, wanted = some_line(seed)
            self.assertEqual(run(*calls), wanted, calls)
            seen.update((call[0], min(row[0], 0)) for call, row in zip(calls, wanted))
        # Else these lines would say nothing of some refusal.
        refusals = {(1, -22), (2, -2), (2, -22), (2, -28), (4, -2), (4, -16), (4, -22)}
        self.assertLessEqual(refusals, seen)


def some_form(chance, count):
    calls = [BEGIN, *questions(*[chance.randrange(1, 9) for _ in range(count)])]
    for q in range(1, count):
        for _ in range(chance.randrange(3)):
            conditions = [(chance.randrange(q), chance.randrange(512)) for _ in range(chance.randrange(1, 5))]
            calls.append(need(q, *conditions))
    return calls


class WhatHolds(unittest.TestCase):
    def test_what_is_next_may_be_answered_and_the_next_stands_behind(self):
        for seed in range(60):
            chance = random.Random(seed)
            form = some_form(chance, 10)
            calls = list(form)
            last = -1
            told = after(calls, NEXT)[0]
            while told != [0]:
                q = told[1]
                self.assertGreater(q, last)
                size = form[q + 1][1]
                self.assertEqual(after(calls, *[answer(q, o) for o in range(size)]), [[0]] * size)
                calls.append(answer(q, chance.randrange(size)))
                last = q
                told = after(calls, NEXT)[0]

    def test_answers_of_those_not_asked_change_nothing(self):
        for seed in range(60):
            chance = random.Random(seed)
            form = some_form(chance, 6)
            calls = list(form)
            for _ in range(12):
                calls.append(answer(chance.randrange(6), chance.randrange(2)))
            last = {call[1]: call for call, row in zip(calls, run(*calls)) if call[0] == 4 and row == [0]}
            counts = [last[q] for q in asked(calls) if q in last]
            self.assertEqual(asked(form + counts), asked(calls))
            self.assertEqual(after(form + counts, NEXT), after(calls, NEXT))


if __name__ == "__main__":
    unittest.main()
