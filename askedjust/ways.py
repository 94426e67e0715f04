"""The ways through a form's questions, and what comes of the questions by them.

What comes of questions is kept as one whole number, a row: nine bits for each question, and of these the one is set
that comes, bits 0 to 7 for its options and bit 8 for that it isn't asked, just as in a condition's set. So a need is
such a number too, of all that meets it: it's met if it has a bit in common with the row.
"""

MOST_WAYS = 300

WIDTH = 9
ALL_BITS = 511

# What comes of a question is its option, or one of these two. One that waits for its answer has no bit in a row,
# so it makes no condition hold.
PASSED_OVER = 8
WAITING = -1


def placed(question, bits):
    return bits << (WIDTH * question)


def mark(question, come):
    return placed(question, 1 << come)


def need_of(conditions):
    need = 0
    for question, bits in conditions:
        need = need | placed(question, bits)
    return need


def names_of(conditions):
    # The need doesn't tell them: a condition with a set of 0 names its question too.
    return need_of([(condition[0], ALL_BITS) for condition in conditions])


def is_asked(needs, row):
    """Whether a question with these needs is asked; row tells what comes of those before it."""
    return all([(row & need) != 0 for need in needs])


def come_of(question, row):
    bits = (row >> (WIDTH * question)) & ALL_BITS
    # Without a bit this is WAITING.
    return bits.bit_length() - 1


def what_comes(row, count):
    return [come_of(question, row) for question in range(count)]


def keep_way(alike, row, asked, named):
    """Of ways that are alike keeps the row that came first, and how many are asked by the one with the most."""
    same = row & named
    kept = alike.get(same)
    if kept is None:
        alike[same] = (row, asked)
    elif kept[1] < asked:
        alike[same] = (kept[0], asked)


def ways_behind(ways, question, size, needs, named):
    """The ways behind a question, one of each that are alike, from the ways ahead of it.

    A way is its row and how many questions are asked by it. Earlier rows stand ahead of later ones, so the first way
    that comes is the earliest of those that are alike to it, and what's given back stands in that order again.
    """
    options = [mark(question, option) for option in range(size)]
    passed_over = mark(question, PASSED_OVER)
    alike = {}
    for row, asked in ways:
        if is_asked(needs, row):
            for option in options:
                keep_way(alike, row | option, asked + 1, named)
        else:
            keep_way(alike, row | passed_over, asked, named)
    return list(alike.values())


def named_behind(names, question):
    named = 0
    for bits in names[question + 1:]:
        named = named | bits
    return named


def ways_through(sizes, needs, names):
    """For each count of first questions, from 0 on, the ways through them, as long as they aren't too many to tell."""
    ways = [(0, 0)]
    told = [ways]
    for question, size in enumerate(sizes):
        ways = ways_behind(ways, question, size, needs[question], named_behind(names, question))
        if len(ways) > MOST_WAYS:
            return told
        told.append(ways)
    return told


def earliest_row(ways, needs, wanted):
    """The earliest row behind which a question with these needs is asked, or isn't, as is wanted; None without one."""
    for row, asked in ways:
        if is_asked(needs, row) == wanted:
            return row
    return None
