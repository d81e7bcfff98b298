"""Cases, and what people can do in them.

A case is one whole number. Its marks are the lowest 16 bits; each bit above
stands for a step that is told apart from any and for a person, and is set if
they did it. So cases that are looked at as one are the same number, and a new
one, in which nobody did anything, is its marks alone.
"""

from endingwork.steps import END

ALL_PLACES = 65535
PLACES = 16
MOST_PEOPLE = 8


def marks_of(case):
    return case & ALL_PLACES


def has_ended(case):
    return marks_of(case) == END


def did_bit(number, who):
    """The bit of a case that tells whether this person did the step of this number."""
    return 1 << (PLACES + MOST_PEOPLE * number + who)


def apart_from(number, told_apart):
    """The numbers of the steps that are apart from this one."""
    firsts = [a for a, b in told_apart if b == number]
    seconds = [b for a, b in told_apart if a == number]
    return firsts + seconds


def plays(parts, part):
    """Whether who plays these parts plays this one; None stands for one who left."""
    return parts is not None and ((parts >> part) & 1) == 1


class Move:
    """A step done by a person: the bits a case must have for it, those it mustn't have, those that come."""

    def __init__(self, number, who, step, others):
        self.number = number
        self.who = who
        self.takes = step.takes
        self.bars = step.gives & ~step.takes
        self.brings = step.gives
        for other in others:
            self.bars |= did_bit(other, who)
        # Of a step that is apart from none it never matters who did it.
        if len(others) > 0:
            self.brings |= did_bit(number, who)

    def fits(self, case):
        """Whether the step can be done by the case's marks, and the person did none that is apart from it."""
        return (case & self.takes) == self.takes and (case & self.bars) == 0

    def case_behind(self, case):
        return (case & ~self.takes) | self.brings


def moves_of(people, steps, told_apart):
    """All that these people can do, by the least step first, then by the least person."""
    moves = []
    for number, step in enumerate(steps):
        others = apart_from(number, told_apart)
        for who, parts in enumerate(people):
            if plays(parts, step.part):
                moves.append(Move(number, who, step, others))
    return moves
