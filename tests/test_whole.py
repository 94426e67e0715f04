"""Many lines, each answered call by call as the document's words tell it, and what always holds."""

import math
import random
import unittest

from tests.lines import (BEGIN, LARGEST, MOST, NEXT, RESULT, after, always, answer, asked, ever, forget, need, question,
                         questions, run)


class Words:
    """The document's words: what's asked from the question back to those it names, and every way one by one."""

    def __init__(self):
        self.forms = []
        self.kept = {}

    def size(self):
        """As many ways as there may be at most."""
        return math.prod(n for n, needs in self.forms)

    def is_asked(self, q):
        return all(any(self.holds(p, s) for p, s in conditions) for conditions in self.forms[q][1])

    def holds(self, p, s):
        if not self.is_asked(p):
            return s & 256 != 0
        return p in self.kept and s & (1 << self.kept[p]) != 0

    def tell(self, call):
        kinds = (self.begin, self.question, self.need, self.next, self.answer,
                 self.forget, self.result, self.ever, self.always, self.most)
        return kinds[call[0]](*call[1:])

    def begin(self):
        self.__init__()
        return [0]

    def question(self, n):
        if n not in range(1, 9):
            return [-22]
        if len(self.forms) == 24:
            return [-28]
        self.forms.append((n, []))
        return [len(self.forms) - 1]

    def need(self, q, size, *row):
        conditions = list(zip(row[::2], row[1::2]))
        if q not in range(len(self.forms)):
            return [-2]
        if size not in (2, 4, 6, 8) or any(p >= q or s > 511 for p, s in conditions):
            return [-22]
        if len(self.forms[q][1]) == 4:
            return [-28]
        self.forms[q][1].append(conditions)
        return [len(self.forms[q][1])]

    def next(self):
        for q in range(len(self.forms)):
            if self.is_asked(q) and q not in self.kept:
                return [1, q]
        return [0]

    def answer(self, q, o):
        if q not in range(len(self.forms)):
            return [-2]
        if not self.is_asked(q):
            return [-16]
        if o not in range(self.forms[q][0]):
            return [-22]
        self.kept[q] = o
        return [0]

    def forget(self, q):
        if q not in range(len(self.forms)):
            return [-2]
        if q not in self.kept:
            return [-6]
        del self.kept[q]
        return [0]

    def result(self):
        counts = [q for q in range(len(self.forms)) if q in self.kept and self.is_asked(q)]
        return [len(counts)] + [number for q in counts for number in (q, self.kept[q])]

    def is_asked_by(self, q, row):
        return all(any(s & (1 << row[p]) for p, s in conditions) for conditions in self.forms[q][1])

    def are_too_many(self, rows, q):
        """Whether more than 300 of these rows, behind question q, are told apart."""
        behind = [conditions for n, needs in self.forms[q + 1:] for conditions in needs]
        named = sorted({p for conditions in behind for p, s in conditions if p <= q})
        return len({tuple(row[p] for p in named) for row in rows}) > 300

    def ways(self, count):
        """Each row that may come of the first count questions; None if they're too many to tell."""
        rows = [()]
        for q in range(count):
            longer = []
            for row in rows:
                comes = range(self.forms[q][0]) if self.is_asked_by(q, row) else [8]
                longer += [row + (come,) for come in comes]
            rows = longer
            if self.are_too_many(rows, q):
                return None
        return rows

    def ever(self, q):
        if q not in range(len(self.forms)):
            return [-2]
        rows = self.ways(q)
        if rows is None:
            return [-75]
        shown = [row for row in rows if self.is_asked_by(q, row)]
        return [1, *min(shown)] if shown else [0]

    def always(self, q):
        if q not in range(len(self.forms)):
            return [-2]
        rows = self.ways(q)
        if rows is None:
            return [-75]
        shown = [row for row in rows if not self.is_asked_by(q, row)]
        return [0, *min(shown)] if shown else [1]

    def most(self):
        rows = self.ways(len(self.forms))
        return [-75] if rows is None else [max(len(row) - row.count(8) for row in rows)]


def some_set(chance):
    return chance.choice([0, 1, 2, 3, 256, 257, 511, chance.randrange(512), chance.randrange(512), 512])


def some_question(chance, size):
    # Every way is followed one by one, so they mustn't be too many for that.
    n = chance.choice([0, 1, 2, 2, 3, 3, 8, 9, LARGEST])
    return question(n if n > 8 or size * n <= 600 else 1)


def some_call(chance, count, size):
    kind = chance.randrange(100)
    if kind < 1:
        return BEGIN
    if kind < 22 or count == 0:
        return some_question(chance, size)
    q = chance.randrange(count + 1)
    if kind < 44:
        count = chance.choice([1, 1, 2, 3, 5])
        return need(q, *[(chance.randrange(max(q, 1)), some_set(chance)) for _ in range(count)])
    if kind < 64:
        return answer(q, chance.choice([0, 0, 1, 1, 2, 7, 8]))
    if kind < 70:
        return forget(q)
    return chance.choice([NEXT, RESULT, NEXT, RESULT, ever(q), always(q), MOST])


def some_line(seed):
    chance = random.Random(seed)
    calls = [BEGIN]
    words = Words()
    wanted = [words.tell(BEGIN)]
    for _ in range(chance.randrange(1, 80)):
        calls.append(some_call(chance, len(words.forms), words.size()))
        wanted.append(words.tell(calls[-1]))
    return calls, wanted


class ByTheWords(unittest.TestCase):
    def test_many_lines(self):
        seen = set()
        for seed in range(600):
            calls, wanted = some_line(seed)
            self.assertEqual(run(*calls), wanted, calls)
            seen.update((call[0], min(row[0], 1)) for call, row in zip(calls, wanted))
        # Else these lines would say nothing of some refusal, or of something else that may be told.
        refusals = {(1, -22), (2, -2), (2, -22), (2, -28), (4, -2), (4, -16), (4, -22)}
        refusals |= {(5, -2), (5, -6), (7, -2), (8, -2)}
        others = {(call, told) for call in (3, 6, 7, 8) for told in (0, 1)}
        self.assertLessEqual(refusals | others, seen)


def some_form(chance, count):
    calls = [BEGIN, *questions(*[chance.randrange(1, 9) for _ in range(count)])]
    for q in range(1, count):
        for _ in range(chance.randrange(3)):
            conditions = [(chance.randrange(q), chance.randrange(512)) for _ in range(chance.randrange(1, 5))]
            calls.append(need(q, *conditions))
    return calls


def some_small_form(chance, most):
    """A form with at most so many ways."""
    count = chance.randrange(1, 8)
    # With many options and few needs it's now and then too many to tell.
    options, needs = chance.choice([((1, 2, 2, 3, 4, 8), (0, 1, 1, 2)), ((4, 5, 6, 7, 8), (0, 0, 0, 1))])
    sizes = [chance.choice(options) for _ in range(count)]
    while math.prod(sizes) > most:
        sizes[chance.randrange(count)] = 1
    calls = [BEGIN, *questions(*sizes)]
    for q in range(1, count):
        for _ in range(chance.choice(needs)):
            conditions = [(chance.randrange(q), some_set(chance) % 512) for _ in range(chance.randrange(1, 5))]
            calls.append(need(q, *conditions))
    if count > 1 and chance.randrange(2) == 0:
        named = chance.sample(range(count - 1), min(count - 1, 4))
        calls.append(need(count - 1, *[(p, some_set(chance) % 512) for p in named]))
    return calls


def in_words(form):
    words = Words()
    for call in form:
        words.tell(call)
    return words


def all_fillings(form):
    """What's told at the end, by each way that whoever fills the form in may answer what's next."""
    results = []
    waiting = [list(form)]
    while waiting:
        calls = waiting.pop()
        told, result = after(calls, NEXT, RESULT)
        if told == [0]:
            results.append(result)
        else:
            size = form[told[1] + 1][1]
            waiting += [calls + [answer(told[1], o)] for o in range(size)]
    return results


def fill_in(row):
    return [answer(q, come) for q, come in enumerate(row) if come != 8]


class WhatHolds(unittest.TestCase):
    def test_what_is_next_may_be_answered_and_the_next_stands_behind(self):
        for seed in range(60):
            chance = random.Random(seed)
            form = some_form(chance, 10)
            calls = list(form)
            last = -1
            told = after(calls, NEXT)[0]
            while told != [0]:
                q = told[1]
                self.assertGreater(q, last)
                size = form[q + 1][1]
                self.assertEqual(after(calls, *[answer(q, o) for o in range(size)]), [[0]] * size)
                calls.append(answer(q, chance.randrange(size)))
                last = q
                told = after(calls, NEXT)[0]

    def test_answers_of_those_not_asked_change_nothing(self):
        for seed in range(60):
            chance = random.Random(seed)
            form = some_form(chance, 6)
            calls = list(form)
            for _ in range(12):
                calls.append(answer(chance.randrange(6), chance.randrange(2)))
            last = {call[1]: call for call, row in zip(calls, run(*calls)) if call[0] == 4 and row == [0]}
            counts = [last[q] for q in asked(calls) if q in last]
            self.assertEqual(asked(form + counts), asked(calls))
            self.assertEqual(after(form + counts, NEXT, RESULT), after(calls, NEXT, RESULT))

    def test_ever_always_and_most_against_all_ways(self):
        seen = set()
        for seed in range(250):
            form = some_small_form(random.Random(seed), 4000)
            words = in_words(form)
            calls = [call for q in range(len(words.forms)) for call in (ever(q), always(q))] + [MOST]
            wanted = [words.tell(call) for call in calls]
            self.assertEqual(after(form, *calls), wanted, form)
            seen.update((call[0], min(row[0], 1)) for call, row in zip(calls, wanted))
        self.assertEqual(seen, {(7, -75), (7, 0), (7, 1), (8, -75), (8, 0), (8, 1), (9, -75), (9, 1)})

    def test_ever_always_and_most_against_all_ways_to_fill_it_in(self):
        for seed in range(60):
            form = some_small_form(random.Random(seed), 60)
            results = all_fillings(form)
            count = len(in_words(form).forms)
            told = after(form, *[ever(q) for q in range(count)], *[always(q) for q in range(count)], MOST)
            self.assertEqual(told[-1], [max(result[0] for result in results)])
            for q in range(count):
                times = sum(q in result[1::2] for result in results)
                self.assertEqual(told[q][0], 1 if times > 0 else 0)
                self.assertEqual(told[count + q][0], 1 if times == len(results) else 0)

    def test_the_way_that_is_told_shows_it(self):
        for seed in range(120):
            form = some_small_form(random.Random(seed), 4000)
            for q in range(len(in_words(form).forms)):
                yes, no = after(form, ever(q), always(q))
                ways = [(yes[1:], True)] if yes[0] == 1 else []
                ways += [(no[1:], False)] if no[0] == 0 else []
                for row, shows in ways:
                    given = fill_in(row)
                    self.assertEqual(after(form, *given), [[0]] * len(given))
                    behind = asked(form + given)
                    self.assertEqual([p for p in behind if p < q], [call[1] for call in given])
                    self.assertEqual(q in behind, shows)


if __name__ == "__main__":
    unittest.main()
