"""The desk: takes the calls on one new form as a list of numbers, and gives back what is answered."""

from askedjust.form import Form

BEGIN = 0
QUESTION = 1
NEED = 2
NEXT = 3

# How many numbers a call has, itself and the count of its row included, the row not; by the call's number.
LENGTHS = (1, 2, 3, 1, 3)


def call_length(calls, start):
    length = LENGTHS[calls[start]]
    if calls[start] == NEED:
        return length + calls[start + 2]
    return length


def in_pairs(numbers):
    return [(numbers[k], numbers[k + 1]) for k in range(0, len(numbers), 2)]


def answer_call(form, call):
    if call[0] == BEGIN:
        return form.begin()
    if call[0] == QUESTION:
        return form.add_question(call[1])
    if call[0] == NEED:
        return form.add_need(call[1], in_pairs(call[3:]))
    if call[0] == NEXT:
        return form.next_question()
    return form.answer(call[1], call[2])


def answers(calls):
    form = Form()
    told = []
    start = 0
    while start < len(calls):
        end = start + call_length(calls, start)
        numbers = answer_call(form, calls[start:end])
        told.append(len(numbers))
        told.extend(numbers)
        start = end
    return told
