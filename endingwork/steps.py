"""Steps, and the marks that they move.

Marks are told as bits: bit k stands for place k.
"""

BEGINNING = 1
END = 2

# Of all marks of an order, and of the cases that are looked at for how far one is.
MOST_TOGETHER = 1024


class Step:
    """What must be marked for it, what is marked behind it, and the part of who does it."""

    def __init__(self, takes, gives, part):
        self.takes = takes
        self.gives = gives
        self.part = part

    def doubles(self, marks):
        """Whether it is on, and a place that it gives is marked already and isn't taken."""
        return (marks & self.takes) == self.takes and (marks & self.gives & ~self.takes) != 0

    def can_be_done(self, marks):
        """Whether it is on and doesn't double."""
        return (marks & self.takes) == self.takes and (marks & self.gives & ~self.takes) == 0

    def marks_behind(self, marks):
        """The marks when it is done; what it both takes and gives stays marked."""
        return (marks & ~self.takes) | self.gives
