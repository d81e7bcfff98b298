"""A list of calls, and the list of what they answer."""

from endingwork.machine import Machine

BEGIN = 0
WORK = 1
APART = 2
PERSON = 3
READY = 4
OPEN = 5
DO = 6
NEXT = 7
STATE = 8

# How many numbers each call is handed, from begin to leave.
HANDED = (0, 3, 2, 1, 0, 0, 3, 1, 1, 1)


def answer_on_cases(machine, call, handed):
    """The numbers that one of the calls from open to leave answers."""
    if call == OPEN:
        return machine.open_case()
    if call == DO:
        return machine.do(handed[0], handed[1], handed[2])
    if call == NEXT:
        return machine.next_step(handed[0])
    if call == STATE:
        return machine.state(handed[0])
    return machine.leave(handed[0])


def answer(machine, call, handed):
    """The numbers that one call answers."""
    if call == BEGIN:
        return machine.begin()
    if call == WORK:
        return machine.work(handed[0], handed[1], handed[2])
    if call == APART:
        return machine.apart(handed[0], handed[1])
    if call == PERSON:
        return machine.person(handed[0])
    if call == READY:
        return machine.ready()
    return answer_on_cases(machine, call, handed)


def answers(calls):
    """What the calls answer on a new object: for each how many numbers, then these."""
    machine = Machine()
    told = []
    at = 0
    while at < len(calls):
        behind = at + 1 + HANDED[calls[at]]
        numbers = answer(machine, calls[at], calls[at + 1:behind])
        told.append(len(numbers))
        told.extend(numbers)
        at = behind
    return told
