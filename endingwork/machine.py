"""The object that the calls are made on: what was told of an order, who came, and its cases."""

from endingwork.cases import MOST_PEOPLE, Move, apart_from, has_ended, marks_of, moves_of, plays
from endingwork.far import COULD_NOT_END, TOO_MANY_TO_TELL, how_far
from endingwork.sound import all_marks, first_fault
from endingwork.steps import BEGINNING, END, Step

MAY_NOT = -1
NO_SUCH = -2
CANNOT_BE_DONE = -11
IS_TAKEN = -16
NOT_TAKEN = -16
DID_ONE_APART = -17
NOT_SO = -22
TOO_MANY = -28

MOST_BITS = 65535
MOST_PART = 15
MOST_STEPS = 16
MOST_TOLD_APART = 32
MOST_CASES = 16


def is_some_places(bits):
    return 0 < bits <= MOST_BITS


def is_a_step(takes, gives, part):
    """Whether work may be told so; nothing takes the end's place, so that an end stays one."""
    if not is_some_places(takes) or not is_some_places(gives):
        return False
    return (takes & END) == 0 and part <= MOST_PART


class Machine:
    """Each call has its method, which gives back the list of the numbers that it answers."""

    def __init__(self):
        self.begin()

    def begin(self):
        self.steps = []
        self.told_apart = []
        # The parts of each who came; None of one who left, so that numbers stay as they were given.
        self.people = []
        self.cases = []
        self.taken = False
        self.told_far = {}
        return [0]

    def work(self, takes, gives, part):
        if self.taken:
            return [IS_TAKEN]
        if not is_a_step(takes, gives, part):
            return [NOT_SO]
        if len(self.steps) == MOST_STEPS:
            return [TOO_MANY]
        self.steps.append(Step(takes, gives, part))
        return [len(self.steps) - 1]

    def apart(self, a, b):
        if self.taken:
            return [IS_TAKEN]
        if max(a, b) >= len(self.steps) or a == b:
            return [NOT_SO]
        # Every telling counts, also one that was told before: the bound is on what was told.
        if len(self.told_apart) == MOST_TOLD_APART:
            return [TOO_MANY]
        self.told_apart.append((a, b))
        return [0]

    def person(self, parts):
        if parts > MOST_BITS:
            return [NOT_SO]
        if len(self.people) == MOST_PEOPLE:
            return [TOO_MANY]
        more = self.people + [parts]
        if TOO_MANY_TO_TELL in self.far_of_all(more):
            return [TOO_MANY_TO_TELL]
        self.people = more
        return [len(more) - 1]

    def ready(self):
        if self.taken:
            return [IS_TAKEN]
        behind = all_marks(self.steps)
        if behind is None:
            return [TOO_MANY]
        fault = first_fault(self.steps, behind)
        if len(fault) > 0:
            return fault
        self.taken = True
        return [0]

    def far_of(self, case, people):
        """How far the case is with these people: what next answers of it.

        It is kept, since person and leave ask it of every case each time,
        though most have not changed; the steps of a taken order never do.
        """
        asked = (case, tuple(people))
        if asked not in self.told_far:
            self.told_far[asked] = how_far(moves_of(people, self.steps, self.told_apart), case)
        return self.told_far[asked]

    def far_of_all(self, people):
        return [self.far_of(case, people)[0] for case in self.cases]

    def open_case(self):
        if not self.taken:
            return [NOT_TAKEN]
        if len(self.cases) == MOST_CASES:
            return [TOO_MANY]
        far = self.far_of(BEGINNING, self.people)[0]
        if far < 0:
            return [far]
        self.cases.append(BEGINNING)
        return [len(self.cases) - 1]

    def do(self, k, step, person):
        if k >= len(self.cases) or step >= len(self.steps) or person >= len(self.people):
            return [NO_SUCH]
        case = self.cases[k]
        if not self.steps[step].can_be_done(marks_of(case)):
            return [CANNOT_BE_DONE]
        if not plays(self.people[person], self.steps[step].part):
            return [MAY_NOT]
        move = Move(step, person, self.steps[step], apart_from(step, self.told_apart))
        # By its marks it can be done, so it is only for a step that is apart if it doesn't fit.
        if not move.fits(case):
            return [DID_ONE_APART]
        far = self.far_of(move.case_behind(case), self.people)[0]
        if far >= 0:
            self.cases[k] = move.case_behind(case)
        return [far]

    def next_step(self, k):
        if k >= len(self.cases):
            return [NO_SUCH]
        return list(self.far_of(self.cases[k], self.people))

    def state(self, k):
        if k >= len(self.cases):
            return [NO_SUCH]
        return [1 if has_ended(self.cases[k]) else 0, marks_of(self.cases[k])]

    def leave(self, person):
        if person >= len(self.people) or self.people[person] is None:
            return [NO_SUCH]
        others = [None if who == person else parts for who, parts in enumerate(self.people)]
        fars = self.far_of_all(others)
        for refusal in (COULD_NOT_END, TOO_MANY_TO_TELL):
            if refusal in fars:
                return [refusal]
        self.people = others
        return [0]
