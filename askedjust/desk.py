"""The desk: takes the calls on one new form as a list of numbers, and gives back what is answered."""

from askedjust.form import Form

BEGIN = 0
QUESTION = 1
NEED = 2
NEXT = 3
ANSWER = 4
FORGET = 5
RESULT = 6
EVER = 7
ALWAYS = 8

# How many numbers a call has, itself and the count of its row included, the row not; by the call's number.
LENGTHS = (1, 2, 3, 1, 3, 2, 1, 2, 2, 1)


def call_length(calls, start):
    length = LENGTHS[calls[start]]
    if calls[start] == NEED:
        return length + calls[start + 2]
    return length


def in_pairs(numbers):
    return [(numbers[k], numbers[k + 1]) for k in range(0, len(numbers), 2)]


def make(form, call):
    """The calls by which a form is made."""
    if call[0] == BEGIN:
        return form.begin()
    if call[0] == QUESTION:
        return form.add_question(call[1])
    return form.add_need(call[1], in_pairs(call[3:]))


def fill_in(form, call):
    """The calls of whoever fills the form in."""
    if call[0] == NEXT:
        return form.next_question()
    if call[0] == ANSWER:
        return form.answer(call[1], call[2])
    if call[0] == FORGET:
        return form.forget(call[1])
    return form.result()


def look_over(form, call):
    """The calls that tell of all ways through the form."""
    if call[0] == EVER:
        return form.ever(call[1])
    if call[0] == ALWAYS:
        return form.always(call[1])
    return form.most()


def answer_call(form, call):
    if call[0] <= NEED:
        return make(form, call)
    if call[0] <= RESULT:
        return fill_in(form, call)
    return look_over(form, call)


def answers(calls):
    form = Form()
    told = []
    start = 0
    while start < len(calls):
        end = start + call_length(calls, start)
        numbers = answer_call(form, calls[start:end])
        told.append(len(numbers))
        told.extend(numbers)
        start = end
    return told
