"""How the calls are written as numbers, for all tests."""

from wordrunnerdesk.machine import answers

LOWEST = -2147483648
HIGHEST = 2147483647

CLEAR = [1]


def load(at, row):
    return [2, at, len(row)] + row


def look(at, n):
    return [3, at, n]


def put(which, value):
    return [4, which, value]


def asked(*calls):
    """The answers to these calls behind a ms_clear, one list for each of them."""
    line = list(CLEAR)
    for call in calls:
        line += call
    numbers = answers(line)
    found = []
    place = 0
    while place < len(numbers):
        count = numbers[place]
        answer = numbers[place + 1:place + 1 + count]
        if len(answer) != count:
            raise AssertionError("an answer is shorter than it says")
        found.append(answer)
        place += 1 + count
    if len(found) != len(calls) + 1 or found[0] != [0]:
        raise AssertionError("not one answer for each call")
    return found[1:]


def first_difference(found, expected):
    """None if the lists are equal, else where and how they differ first.

    unittest's own account of two long lists that differ takes hours to make.
    """
    for place, pair in enumerate(zip(found, expected)):
        if pair[0] != pair[1]:
            return (place, pair[0], pair[1])
    if len(found) != len(expected):
        return ("lengths", len(found), len(expected))
    return None
