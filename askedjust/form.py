"""A form while it is made and filled in: its questions, their needs, and the answers that are kept.

Each call of a form gives back the list of numbers that it answers; a refusal is its number alone.
"""

from askedjust.ways import PASSED_OVER, WAITING, is_asked, mark, names_of, need_of, what_comes
from askedjust.ways import earliest_row, ways_through

NO_QUESTION = -2
NO_ANSWER = -6
NOT_ASKED = -16
NOT_VALID = -22
NO_ROOM = -28
TOO_MANY = -75

MOST_QUESTIONS = 24
MOST_OPTIONS = 8
MOST_NEEDS = 4
MOST_CONDITIONS = 4
SET_LIMIT = 512


def is_valid_condition(condition, question):
    return condition[0] < question and condition[1] < SET_LIMIT


def is_valid_need(conditions, question):
    if len(conditions) < 1 or len(conditions) > MOST_CONDITIONS:
        return False
    return all([is_valid_condition(condition, question) for condition in conditions])


class Form:
    def __init__(self):
        self.sizes = []
        self.needs = []
        self.names = []
        self.given = []
        # What ways_through tells of the form as it stands, or None while that isn't known: it takes long to find,
        # and answers change nothing of it.
        self.ways = None

    def begin(self):
        self.sizes.clear()
        self.needs.clear()
        self.names.clear()
        self.given.clear()
        self.ways = None
        return [0]

    def has_question(self, question):
        return question < len(self.sizes)

    def add_question(self, size):
        if size < 1 or size > MOST_OPTIONS:
            return [NOT_VALID]
        if len(self.sizes) >= MOST_QUESTIONS:
            return [NO_ROOM]
        self.sizes.append(size)
        self.needs.append([])
        self.names.append(0)
        self.given.append(None)
        self.ways = None
        return [len(self.sizes) - 1]

    def add_need(self, question, conditions):
        if not self.has_question(question):
            return [NO_QUESTION]
        if not is_valid_need(conditions, question):
            return [NOT_VALID]
        needs = self.needs[question]
        if len(needs) >= MOST_NEEDS:
            return [NO_ROOM]
        needs.append(need_of(conditions))
        self.names[question] = self.names[question] | names_of(conditions)
        self.ways = None
        return [len(needs)]

    def as_things_are(self):
        # Found anew each time: a kept answer may come to count again, and needs may come late.
        row = 0
        for question, needs in enumerate(self.needs):
            if not is_asked(needs, row):
                row = row | mark(question, PASSED_OVER)
            elif self.given[question] is not None:
                row = row | mark(question, self.given[question])
        return what_comes(row, len(self.needs))

    def next_question(self):
        comes = self.as_things_are()
        if WAITING in comes:
            return [1, comes.index(WAITING)]
        return [0]

    def answer(self, question, option):
        if not self.has_question(question):
            return [NO_QUESTION]
        comes = self.as_things_are()
        if comes[question] == PASSED_OVER:
            return [NOT_ASKED]
        if option >= self.sizes[question]:
            return [NOT_VALID]
        self.given[question] = option
        return [0]

    def forget(self, question):
        if not self.has_question(question):
            return [NO_QUESTION]
        if self.given[question] is None:
            return [NO_ANSWER]
        self.given[question] = None
        return [0]

    def result(self):
        told = []
        for question, come in enumerate(self.as_things_are()):
            if come != PASSED_OVER and come != WAITING:
                told.append(question)
                told.append(come)
        return [len(told) // 2] + told

    def ways_before(self, count):
        """The ways through the first count questions; None if they're too many to tell."""
        if self.ways is None:
            self.ways = ways_through(self.sizes, self.needs, self.names)
        if count < len(self.ways):
            return self.ways[count]
        return None

    def tell_way(self, question, asked):
        """1 and the earliest row by which it's asked, or 0 and that by which it isn't; without one the other number."""
        if not self.has_question(question):
            return [NO_QUESTION]
        ways = self.ways_before(question)
        if ways is None:
            return [TOO_MANY]
        row = earliest_row(ways, self.needs[question], asked == 1)
        if row is None:
            return [1 - asked]
        return [asked] + what_comes(row, question)

    def ever(self, question):
        return self.tell_way(question, 1)

    def always(self, question):
        return self.tell_way(question, 0)

    def most(self):
        ways = self.ways_before(len(self.sizes))
        if ways is None:
            return [TOO_MANY]
        return [max([asked for row, asked in ways])]
