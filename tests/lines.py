"""Writes calls as numbers, and reads what is answered call by call."""

from askedjust.desk import answers

BEGIN = [0]
NEXT = [3]
RESULT = [6]
MOST = [9]
LARGEST = 4294967295


def question(n):
    return [1, n]


def need(q, *conditions):
    row = [number for condition in conditions for number in condition]
    return [2, q, len(row)] + row


def answer(q, o):
    return [4, q, o]


def forget(q):
    return [5, q]


def ever(q):
    return [7, q]


def always(q):
    return [8, q]


def questions(*sizes):
    return [question(n) for n in sizes]


def line(calls):
    return [number for call in calls for number in call]


def apart(told):
    rows = []
    at = 0
    while at < len(told):
        end = at + 1 + told[at]
        assert end <= len(told), told
        rows.append(told[at + 1:end])
        at = end
    return rows


def run(*calls):
    """What each of the calls is answered, as a list of lists."""
    rows = apart(answers(line(calls)))
    assert len(rows) == len(calls), rows
    return rows


def after(before, *calls):
    """Like run, for the calls behind those of before alone."""
    return run(*before, *calls)[len(before):]


def asked(before):
    """The questions that are asked behind these calls, found by answers that are refused otherwise."""
    rows = after(before, *[answer(q, LARGEST) for q in range(24)])
    return [q for q, row in enumerate(rows) if row == [-22]]
