"""The object that the calls are made on: what was told of an order, and who came."""

from endingwork.sound import all_marks, first_fault
from endingwork.steps import END, Step

IS_TAKEN = -16
NOT_SO = -22
TOO_MANY = -28

MOST_BITS = 65535
MOST_PART = 15
MOST_STEPS = 16
MOST_TOLD_APART = 32
MOST_PEOPLE = 8


def is_some_places(bits):
    return 0 < bits <= MOST_BITS


def is_a_step(takes, gives, part):
    """Whether work may be told so; nothing takes the end's place, so that an end stays one."""
    if not is_some_places(takes) or not is_some_places(gives):
        return False
    return (takes & END) == 0 and part <= MOST_PART


class Machine:
    """Each method is a call, and gives back the list of the numbers that it answers."""

    def __init__(self):
        self.begin()

    def begin(self):
        self.steps = []
        self.told_apart = []
        self.people = []
        self.taken = False
        return [0]

    def work(self, takes, gives, part):
        if self.taken:
            return [IS_TAKEN]
        if not is_a_step(takes, gives, part):
            return [NOT_SO]
        if len(self.steps) == MOST_STEPS:
            return [TOO_MANY]
        self.steps.append(Step(takes, gives, part))
        return [len(self.steps) - 1]

    def apart(self, a, b):
        if self.taken:
            return [IS_TAKEN]
        if max(a, b) >= len(self.steps) or a == b:
            return [NOT_SO]
        # Every telling counts, also one that was told before: the bound is on what was told.
        if len(self.told_apart) == MOST_TOLD_APART:
            return [TOO_MANY]
        self.told_apart.append((a, b))
        return [0]

    def person(self, parts):
        if parts > MOST_BITS:
            return [NOT_SO]
        if len(self.people) == MOST_PEOPLE:
            return [TOO_MANY]
        self.people.append(parts)
        return [len(self.people) - 1]

    def ready(self):
        if self.taken:
            return [IS_TAKEN]
        behind = all_marks(self.steps)
        if behind is None:
            return [TOO_MANY]
        fault = first_fault(self.steps, behind)
        if len(fault) > 0:
            return fault
        self.taken = True
        return [0]
