"""A form while it is filled in: its questions, their needs, and the answers that are kept.

Each call of a form gives back the list of numbers that it answers; a refusal is its number alone.
"""

NO_QUESTION = -2
NOT_ASKED = -16
NOT_VALID = -22
NO_ROOM = -28

MOST_QUESTIONS = 24
MOST_OPTIONS = 8
MOST_NEEDS = 4
MOST_CONDITIONS = 4
SET_LIMIT = 512

# What comes of a question is its option, or one of these two. Both are read as bits of a set:
# no set has bit 9, so a question that is asked and waits for its answer makes no condition hold.
PASSED_OVER = 8
WAITING = 9


def is_valid_condition(condition, question):
    return condition[0] < question and condition[1] < SET_LIMIT


def is_valid_need(conditions, question):
    if len(conditions) < 1 or len(conditions) > MOST_CONDITIONS:
        return False
    return all([is_valid_condition(condition, question) for condition in conditions])


def holds(condition, row):
    come = row[condition[0]]
    return (condition[1] >> come) & 1 == 1


def is_met(conditions, row):
    return any([holds(condition, row) for condition in conditions])


def is_asked(needs, row):
    """Whether a question with these needs is asked; row tells what comes of those before it."""
    return all([is_met(conditions, row) for conditions in needs])


class Form:
    def __init__(self):
        self.sizes = []
        self.needs = []
        self.given = []

    def begin(self):
        self.sizes.clear()
        self.needs.clear()
        self.given.clear()
        return [0]

    def has_question(self, question):
        return question < len(self.sizes)

    def add_question(self, size):
        if size < 1 or size > MOST_OPTIONS:
            return [NOT_VALID]
        if len(self.sizes) >= MOST_QUESTIONS:
            return [NO_ROOM]
        self.sizes.append(size)
        self.needs.append([])
        self.given.append(None)
        return [len(self.sizes) - 1]

    def add_need(self, question, conditions):
        if not self.has_question(question):
            return [NO_QUESTION]
        if not is_valid_need(conditions, question):
            return [NOT_VALID]
        needs = self.needs[question]
        if len(needs) >= MOST_NEEDS:
            return [NO_ROOM]
        needs.append(conditions)
        return [len(needs)]

    def what_comes(self):
        # Found anew each time: a kept answer may come to count again, and needs may come late.
        row = []
        for question, needs in enumerate(self.needs):
            if not is_asked(needs, row):
                row.append(PASSED_OVER)
            elif self.given[question] is None:
                row.append(WAITING)
            else:
                row.append(self.given[question])
        return row

    def next_question(self):
        row = self.what_comes()
        if WAITING in row:
            return [1, row.index(WAITING)]
        return [0]

    def answer(self, question, option):
        if not self.has_question(question):
            return [NO_QUESTION]
        if self.what_comes()[question] == PASSED_OVER:
            return [NOT_ASKED]
        if option >= self.sizes[question]:
            return [NOT_VALID]
        self.given[question] = option
        return [0]
