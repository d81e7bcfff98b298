"""Calls as lists of numbers, and their answers one list a call."""

from endingwork.order import answers

LARGEST = 4294967295
BEGIN = [0]
READY = [4]
OPEN = [5]

# The shortest order that is sound: from the beginning straight to the end.
SHORTEST = [[1, 1, 2, 0]]


def work(takes, gives, part=0):
    return [1, takes, gives, part]


def apart(a, b):
    return [2, a, b]


def person(parts):
    return [3, parts]


def do(k, step, who):
    return [6, k, step, who]


def next_of(k):
    return [7, k]


def state(k):
    return [8, k]


def leave(who):
    return [9, who]


def parts(*numbers):
    """The bits of these parts."""
    return sum(1 << number for number in numbers)


def places(*numbers):
    """The bits of these places."""
    return sum(1 << number for number in numbers)


def flat(calls):
    return [number for call in calls for number in call]


def split(told):
    """What answers gives back, as one list of numbers for each call."""
    rows = []
    at = 0
    while at < len(told):
        rows.append(told[at + 1:at + 1 + told[at]])
        at += 1 + told[at]
    if at != len(told):
        raise ValueError("a count goes beyond the list")
    return rows


def asked(*calls):
    """The answers of these calls behind a begin, which is answered 0 and left out."""
    rows = split(answers(flat([BEGIN] + list(calls))))
    if len(rows) != len(calls) + 1 or rows[0] != [0]:
        raise ValueError("begin isn't answered, or a call is answered otherwise than once")
    return rows[1:]


def last(*calls):
    return asked(*calls)[-1]


def behind(prepared, *calls):
    """The answers of the calls alone that come behind what is prepared."""
    return asked(*prepared, *calls)[len(prepared):]
