"""Point 3: ready."""

import unittest
from itertools import product

from endingwork.sound import crowded_ends
from helper import READY, SHORTEST, apart, asked, last, person, places, work

SIDE_BY_SIDE = [
    work(places(0), places(2, 3)),
    work(places(2), places(4)),
    work(places(3), places(5)),
    work(places(4, 5), places(1)),
]

# Both of the middle steps double, each behind the other; the last of them is met first.
DOUBLING = [
    work(places(0), places(2, 3)),
    work(places(2), places(4)),
    work(places(3), places(4)),
    work(places(4), places(1)),
]

# Place 0 stays marked and ten others come in any number: 1,024 marks.
TEN_OF_ANY = [work(places(0), places(0, k)) for k in range(2, 12)]
ALL_TEN_END = work(places(0, *range(2, 12)), places(1))


class Sound(unittest.TestCase):
    def sound(self, *steps):
        self.assertEqual(last(*steps, READY), [0])

    def test_one_step(self):
        self.sound(*SHORTEST)

    def test_one_behind_another(self):
        self.sound(work(places(0), places(2)), work(places(2), places(3)), work(places(3), places(1)))

    def test_side_by_side(self):
        self.sound(*SIDE_BY_SIDE)

    def test_a_choice(self):
        self.sound(work(1, places(2)), work(1, places(3)), work(places(2), 2), work(places(3), 2))

    def test_back_to_the_beginning(self):
        self.sound(work(1, places(2)), work(places(2), 1), work(places(2), 2))

    def test_what_is_taken_and_given_stays_marked(self):
        self.sound(work(1, 1), work(1, 2))

    def test_what_is_taken_and_given_beside_others(self):
        self.sound(
            work(places(0), places(2, 3)),
            work(places(2, 3), places(2, 4)),
            work(places(2, 4), places(2, 15)),
            work(places(2, 15), places(1)),
        )

    def test_two_that_are_alike(self):
        self.sound(work(1, 2), work(1, 2, 7))

    def test_all_16_places_and_130_marks(self):
        firsts, seconds = range(2, 9), range(9, 16)
        between = [work(places(a), places(b)) for a, b in zip(firsts, seconds)]
        self.sound(work(1, places(*firsts)), *between, work(places(*seconds), 2))

    def test_people_and_apart_do_not_matter(self):
        self.assertEqual(last(*SIDE_BY_SIDE, apart(1, 2), READY), [0])
        self.assertEqual(last(*SIDE_BY_SIDE, person(0), apart(0, 1), READY), [0])


class First(unittest.TestCase):
    """(1) no step doubles."""

    def test_the_least_step(self):
        self.assertEqual(last(*DOUBLING, READY), [1, 1])

    def test_a_later_step_alone(self):
        steps = [work(1, places(2, 3)), work(places(2), places(3)), work(places(3), places(4)), work(places(4), 2)]
        self.assertEqual(last(*steps, READY), [1, 1])
        steps = [work(places(2, 3), 2), work(1, places(2, 3)), work(places(2), places(3))]
        self.assertEqual(last(*steps, READY), [1, 2])

    def test_at_the_beginning(self):
        self.assertEqual(last(work(1, places(0, 2)), work(places(0, 2), 2), READY), [1, 0])

    def test_the_end_doubled(self):
        self.assertEqual(last(work(1, places(1, 2)), work(places(2), 2), READY), [1, 1])

    def test_by_a_place_that_it_takes_it_does_not_double(self):
        self.assertEqual(last(work(1, places(0)), work(1, places(1)), READY), [0])

    def test_one_that_is_not_on_does_not_double(self):
        # Behind the first step what it gives is marked, but what it takes isn't.
        self.assertEqual(last(work(1, places(2)), work(places(2), 2), READY), [0])

    def test_a_doubling_step_is_not_done(self):
        # Done all the same, the first would come to place 5 and the second could be done.
        steps = [work(1, places(2, 3)), work(places(2), places(3, 5)), work(places(5), 2)]
        self.assertEqual(last(*steps, READY), [1, 1])


class Second(unittest.TestCase):
    """(2) from each of all marks the end can be come to."""

    def test_no_steps(self):
        self.assertEqual(last(READY), [2, 1])

    def test_a_dead_end(self):
        self.assertEqual(last(work(1, 2), work(1, places(2)), READY), [2, 4])

    def test_the_least_marks(self):
        self.assertEqual(last(work(1, 2), work(1, places(9)), work(1, places(5)), READY), [2, 32])
        self.assertEqual(last(work(1, 2), work(1, places(5)), work(1, places(9)), READY), [2, 32])

    def test_the_least_as_a_number_not_the_first_met(self):
        self.assertEqual(last(work(1, 2), work(1, places(15)), work(places(15), places(3, 4)), READY), [2, 24])

    def test_round_and_round(self):
        steps = [work(1, 2), work(1, places(4)), work(places(4), places(3)), work(places(3), places(4))]
        self.assertEqual(last(*steps, READY), [2, 8])

    def test_one_that_waits_for_ever(self):
        self.assertEqual(last(work(1, places(2, 3)), work(places(3), places(4)), READY), [2, 1])

    def test_nothing_comes_to_the_end(self):
        self.assertEqual(last(work(1, 1), READY), [2, 1])

    def test_the_end_beside_others_is_none(self):
        self.assertEqual(last(work(1, 2), work(1, places(1, 2)), READY), [2, 6])

    def test_the_end_itself_can_be_come_to(self):
        self.assertEqual(last(work(1, places(2)), work(places(2), 2), READY), [0])


class Third(unittest.TestCase):
    """(3) place 1 is never marked beside others.

    No step takes place 1 and each gives some place, so from such marks the
    end can't be come to: where (3) isn't so (2) isn't either, and is answered.
    So what looks for (3) is asked by itself.
    """

    def test_answered_as_the_second(self):
        self.assertEqual(last(work(1, places(1, 2)), READY), [2, 1])
        self.assertEqual(last(work(1, 2), work(1, places(1, 3)), work(places(3), places(3)), READY), [2, 10])

    def test_what_is_marked_beside_place_1(self):
        found = crowded_ends({1: [], 2: [], 3: [], 4: [], 32770: [], 65533: [], 6: []})
        self.assertEqual(sorted(found), [3, 6, 32770])

    def test_none(self):
        self.assertEqual(crowded_ends({1: [], 2: [], 4: [], 65533: []}), [])


class Fourth(unittest.TestCase):
    """(4) each step can be done."""

    def test_a_step_that_is_never_on(self):
        self.assertEqual(last(work(1, 2), work(places(2), 2), READY), [4, 1])

    def test_the_least_step(self):
        self.assertEqual(last(work(places(3), 2), work(1, 2), work(places(2), 2), READY), [4, 0])

    def test_of_its_places_never_all_are_marked(self):
        steps = [work(1, places(2)), work(1, places(3)), work(places(2), 2), work(places(3), 2), work(places(2, 3), 2)]
        self.assertEqual(last(*steps, READY), [4, 4])

    def test_the_16th(self):
        self.assertEqual(last(*[work(1, 2)] * 15, work(places(15), 2), READY), [4, 15])


class SeveralAtOnce(unittest.TestCase):
    def test_first_and_others(self):
        never_on = work(places(9), 2)
        self.assertEqual(last(never_on, *DOUBLING, READY), [1, 2])
        self.assertEqual(last(work(1, places(7)), *DOUBLING, never_on, READY), [1, 2])

    def test_second_and_third_and_fourth(self):
        self.assertEqual(last(work(places(9), 2), work(1, 2), work(1, places(1, 2)), READY), [2, 6])

    def test_second_and_fourth(self):
        self.assertEqual(last(work(places(9), 2), READY), [2, 1])
        self.assertEqual(last(work(places(9), 2), work(1, 2), work(1, places(2)), READY), [2, 4])


class Count(unittest.TestCase):
    def test_1024(self):
        self.assertEqual(last(*TEN_OF_ANY, READY), [1, 0])

    def test_1025(self):
        self.assertEqual(last(*TEN_OF_ANY, ALL_TEN_END, READY), [-28])

    def test_513_and_769_and_1025(self):
        # Any of nine go one by one, beside place 11 or, where it is left, beside place 12.
        start = work(1, places(11, *range(2, 11)))
        nine = [work(places(11, k), places(11)) for k in range(2, 11)]
        self.assertEqual(last(start, *nine, READY), [2, 1])
        self.assertEqual(last(start, *nine, work(places(10, 11), places(12)), READY), [2, 1])
        self.assertEqual(last(start, *nine, work(places(11), places(12)), READY), [-28])

    def test_far_above(self):
        fourteen = [work(1, places(0, k)) for k in range(2, 16)]
        self.assertEqual(last(*fourteen, READY), [-28])
        self.assertEqual(last(*fourteen, work(1, 2), READY), [-28])

    def test_too_many_is_named_before_what_is_not_so(self):
        self.assertEqual(last(work(places(15), 2), *TEN_OF_ANY, ALL_TEN_END, READY), [-28])


class WhatItChanges(unittest.TestCase):
    def test_taken_is_taken(self):
        self.assertEqual(asked(*SHORTEST, READY, READY, READY)[1:], [[0], [-16], [-16]])

    def test_what_is_not_sound_is_not_taken(self):
        rows = asked(READY, work(1, places(2)), READY, work(places(2), 2), apart(0, 1), READY, READY)
        self.assertEqual(rows, [[2, 1], [0], [2, 1], [1], [0], [0], [-16]])

    def test_each_answer_but_0_changes_nothing(self):
        orders = {
            "too many": ([*TEN_OF_ANY, ALL_TEN_END], [-28]),
            "first": (DOUBLING, [1, 1]),
            "second": ([work(1, 2), work(1, places(2))], [2, 4]),
            "fourth": ([work(1, 2), work(places(2), 2)], [4, 1]),
        }
        for name, (steps, answer) in orders.items():
            with self.subTest(name):
                rows = asked(*steps, person(1), READY, READY, apart(0, 1), work(1, 2), person(1), READY)
                later = last(*steps, work(1, 2), READY)
                self.assertEqual(rows[-6:], [answer, answer, [0], [len(steps)], [1], later])

    def test_people_stay(self):
        self.assertEqual(asked(person(1), *SHORTEST, READY, person(1))[-1], [1])


def plain_all_marks(steps):
    """All marks as sets of places, straight from the document's words."""
    known, grown = set(), {frozenset([0])}
    while grown != known:
        known = grown
        grown = known | {(marks - takes) | gives for marks in known for takes, gives in steps
                         if takes <= marks and not gives & (marks - takes)}
    return known


def plain_ready(steps):
    end = frozenset([1])
    known = plain_all_marks(steps)

    def number(marks):
        return sum(1 << place for place in marks)

    doubling = [k for k, (takes, gives) in enumerate(steps)
                if any(takes <= marks and gives & (marks - takes) for marks in known)]
    if doubling:
        return [1, min(doubling)]
    ending, grown = None, {end} & known
    while grown != ending:
        ending = grown
        grown = ending | {marks for marks in known for takes, gives in steps
                          if takes <= marks and (marks - takes) | gives in ending}
    if known != ending:
        return [2, min(number(marks) for marks in known - ending)]
    beside = [number(marks) for marks in known if 1 in marks and marks != end]
    if beside:
        return [3, min(beside)]
    idle = [k for k, (takes, gives) in enumerate(steps) if not any(takes <= marks for marks in known)]
    return [4, min(idle)] if idle else [0]


def places_of(bits):
    return frozenset(place for place in range(16) if bits >> place & 1)


class AgainstThePlainWords(unittest.TestCase):
    def compare(self, steps):
        plain = plain_ready([(places_of(takes), places_of(gives)) for takes, gives in steps])
        self.assertEqual(last(*[work(takes, gives) for takes, gives in steps], READY), plain, steps)

    def test_every_order_of_two_steps_by_four_places(self):
        kinds = list(product((1, 4, 5, 8, 9, 12, 13), range(1, 16)))
        for steps in product(kinds, repeat=2):
            self.compare(steps)

    def test_every_order_of_three_steps_by_three_places(self):
        kinds = list(product((1, 4, 5), range(1, 8)))
        for steps in product(kinds, repeat=3):
            self.compare(steps)
