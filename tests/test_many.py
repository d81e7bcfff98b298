"""Too many to tell: where 1,024 come together and where 1,025 do.

The orders here have steps that give back what they take ("rounds"): they move
no marks, but are told apart from another step, so it's another case whoever
did which of them. So many people and rounds, so many cases come together.
"""

import unittest

from helper import OPEN, READY, apart, behind, do, leave, next_of, parts, person, places, state, work

GO, SHORT, ROUND, EXTRA = 15, 14, 0, 3

GOES = person(parts(GO))
TAKES_THE_SHORT_WAY = person(parts(SHORT))
FOUR_GO_ROUND = [person(parts(ROUND))] * 4
ONE_MORE = person(parts(EXTRA))


def rounds(place, many, part=ROUND):
    return [work(places(place), places(place), part)] * many


def far_from(place):
    """Three steps from here to the end, by which 1,024 come together if four people go round.

    Here there are 4 rounds and at the next place 2, which makes 16 and 8 that
    can be done or not. With the case itself, of up to three of 16 there are
    1 + 16 + 120 + 560; one step on, of up to two of 24, 1 + 24 + 276; two steps
    on, of up to one of 24, 1 + 24; and the end: 1,024. Somebody who plays the
    extra part goes round at the third place: then it's one more.
    """
    return [work(places(place), places(14), GO), work(places(14), places(15), GO), work(places(15), 2, GO),
            *rounds(place, 4), *rounds(14, 2), *rounds(15, 1, EXTRA)]


def rounds_apart(first):
    """All rounds of far_from, whose steps are numbered from first, are told apart from its first step."""
    return [apart(first, k) for k in range(first + 3, first + 10)]


class Open(unittest.TestCase):
    FAR = [*far_from(0), *rounds_apart(0), GOES, *FOUR_GO_ROUND]

    def test_1024_with_the_end_among_the_new_ones(self):
        self.assertEqual(behind([*self.FAR, READY], OPEN, next_of(0)), [[0], [3, 0, 0]])

    def test_1025_with_the_end_among_the_new_ones(self):
        self.assertEqual(behind([*self.FAR, ONE_MORE, READY], OPEN, state(0)), [[-75], [-2]])

    def test_the_refusal_changes_nothing(self):
        rows = behind([*self.FAR, ONE_MORE, READY], OPEN, OPEN, next_of(0), leave(5), OPEN, next_of(0), OPEN)
        self.assertEqual(rows, [[-75], [-75], [-2], [0], [0], [3, 0, 0], [1]])

    def test_what_is_apart_from_none_makes_no_more(self):
        # The same steps and people with nothing told apart; then with the last round alone not told.
        steps = [call for call in self.FAR if call[0] != 2]
        self.assertEqual(behind([*steps, ONE_MORE, READY], OPEN, next_of(0)), [[0], [3, 0, 0]])
        steps = [call for call in self.FAR if call != apart(0, 9)]
        self.assertEqual(behind([*steps, ONE_MORE, READY], OPEN, next_of(0)), [[0], [3, 0, 0]])

    def test_far_above(self):
        self.assertEqual(behind([*self.FAR, *[person(parts(ROUND, EXTRA))] * 3, READY], OPEN), [[-75]])

    def test_16_were_opened_is_named_before(self):
        # The way is done at once each time, for else nobody more could come.
        calls = [call for k in range(16) for call in (OPEN, do(k, 0, 0), do(k, 1, 0), do(k, 2, 0))]
        rows = behind([*self.FAR, READY], *calls, ONE_MORE, OPEN)
        self.assertEqual(rows[-3:], [[0], [5], [-28]])

    def test_not_taken_is_named_before(self):
        self.assertEqual(behind([*self.FAR, ONE_MORE], OPEN), [[-16]])


class NoEnd(unittest.TestCase):
    """Nobody goes to the end, and ten rounds can be done or not."""

    def order(self, place, many, *steps):
        told = [*steps, work(places(place), 2, GO), *rounds(place, many)]
        first = len(steps)
        return [*told, *[apart(first, first + k) for k in range(1, many + 1)]]

    def test_1024_and_none_more_to_come(self):
        people = [person(parts(ROUND))] * 2
        self.assertEqual(behind([*self.order(0, 5), *people, READY], OPEN), [[-33]])

    def test_1025(self):
        people = [person(parts(ROUND))] * 2
        order = self.order(2, 5, work(1, places(2), ROUND))
        self.assertEqual(behind([*order, *people, READY], OPEN), [[-75]])

    def test_2048(self):
        people = [person(parts(ROUND))]
        self.assertEqual(behind([*self.order(0, 10), *people, READY], OPEN), [[-33]])
        self.assertEqual(behind([*self.order(0, 11), *people, READY], OPEN), [[-75]])

    def test_the_end_may_be_nearer_than_too_many(self):
        people = [person(parts(ROUND))] * 7
        self.assertEqual(behind([*self.order(0, 11), *people, READY], OPEN), [[-75]])
        self.assertEqual(behind([*self.order(0, 11), *people, GOES, READY], OPEN, next_of(0)), [[0], [1, 0, 7]])


class Person(unittest.TestCase):
    PREPARED = [*far_from(0), *rounds_apart(0), GOES, *FOUR_GO_ROUND, READY, OPEN]

    def test_1024_and_1025(self):
        self.assertEqual(behind(self.PREPARED, person(0), ONE_MORE), [[5], [-75]])

    def test_the_refusal_changes_nothing(self):
        rows = behind(self.PREPARED, ONE_MORE, do(0, 0, 5), leave(5), next_of(0), OPEN, person(0), ONE_MORE)
        self.assertEqual(rows, [[-75], [-2], [-2], [3, 0, 0], [1], [5], [-75]])

    def test_wrong_parts_and_too_many_people_are_named_before(self):
        self.assertEqual(behind(self.PREPARED, person(65536 + parts(EXTRA)), ONE_MORE, *[person(0)] * 3, ONE_MORE),
                         [[-22], [-75], [5], [6], [7], [-28]])

    def test_some_case(self):
        # The first has ended and the second is beyond where it's too many; then there's a third.
        calls = [OPEN, do(0, 0, 0), do(0, 1, 0), do(0, 2, 0), do(1, 0, 0)]
        self.assertEqual(behind(self.PREPARED, *calls, OPEN, ONE_MORE)[-2:], [[2], [-75]])
        self.assertEqual(behind(self.PREPARED, *calls, ONE_MORE, OPEN)[-2:], [[5], [-75]])

    def test_without_cases_it_is_not_asked(self):
        self.assertEqual(behind(self.PREPARED[:-1], ONE_MORE, OPEN), [[5], [-75]])

    def test_one_who_makes_it_nearer(self):
        # All that comes by the rounds isn't looked at any more if the end is one step away.
        steps = [*far_from(0), work(1, 2, SHORT), *rounds_apart(0), GOES, *FOUR_GO_ROUND, READY, OPEN]
        self.assertEqual(behind(steps, ONE_MORE, person(parts(EXTRA, SHORT)), next_of(0)), [[-75], [5], [1, 10, 5]])


class Do(unittest.TestCase):
    # From the beginning it's one step to the end by the short way; step 0 leads to where it's far.
    PREPARED = [work(1, places(2), GO), work(1, 2, SHORT), *far_from(2), *rounds_apart(2), GOES, *FOUR_GO_ROUND,
                TAKES_THE_SHORT_WAY]

    def test_1024(self):
        self.assertEqual(behind([*self.PREPARED, READY], OPEN, do(0, 0, 0), next_of(0)), [[0], [3], [3, 2, 0]])

    def test_1025(self):
        rows = behind([*self.PREPARED, ONE_MORE, READY], OPEN, do(0, 0, 0), state(0), next_of(0), do(0, 1, 5))
        self.assertEqual(rows, [[0], [-75], [0, 1], [1, 1, 5], [0]])

    def test_the_refusal_changes_nothing(self):
        calls = [OPEN, do(0, 0, 0), do(0, 0, 0), OPEN, state(0), leave(6), do(0, 0, 0), do(0, 2, 0)]
        self.assertEqual(behind([*self.PREPARED, ONE_MORE, READY], *calls),
                         [[0], [-75], [-75], [1], [0, 1], [0], [3], [2]])

    def test_what_the_person_may_not_is_named_before(self):
        rows = behind([*self.PREPARED, ONE_MORE, READY], OPEN, do(0, 0, 1), do(0, 2, 0), do(0, 0, 7), do(0, 0, 0))
        self.assertEqual(rows, [[0], [-1], [-11], [-2], [-75]])

    def test_it_matters_who_did_what_before(self):
        # Of what was done already it isn't asked again whether it's done: fewer come together.
        prepared = [*far_from(0), *rounds_apart(0), GOES, *FOUR_GO_ROUND, READY, OPEN]
        self.assertEqual(behind(prepared, ONE_MORE, do(0, 3, 1), ONE_MORE, next_of(0), do(0, 0, 1), do(0, 0, 0)),
                         [[-75], [3], [5], [3, 0, 0], [-1], [2]])


class Leave(unittest.TestCase):
    # Where it's far there's a short way too, and another place from which there's the short way alone.
    STEPS = [work(1, places(2), GO), work(places(2), 2, SHORT), work(1, places(3), GO), work(places(3), 2, SHORT)]
    PREPARED = [*STEPS, *far_from(2), *rounds_apart(4), GOES, *FOUR_GO_ROUND, TAKES_THE_SHORT_WAY]
    CAN = [*PREPARED, READY, OPEN, OPEN]
    TOO_MANY = [*PREPARED, ONE_MORE, READY, OPEN, OPEN]

    def test_1024(self):
        rows = behind(self.CAN[:-1], do(0, 0, 0), next_of(0), leave(5), next_of(0))
        self.assertEqual(rows, [[1], [1, 1, 5], [0], [3, 4, 0]])

    def test_1025_by_the_way_there(self):
        # From the beginning it's one step more: the case as it is, and the 1,024; and the other place.
        self.assertEqual(behind(self.CAN[:-1], leave(5), next_of(0)), [[-75], [2, 0, 0]])

    def test_1025(self):
        rows = behind(self.TOO_MANY[:-1], do(0, 0, 0), leave(5), next_of(0), leave(6), leave(5), next_of(0))
        self.assertEqual(rows, [[1], [-75], [1, 1, 5], [0], [0], [3, 4, 0]])

    def test_the_refusal_changes_nothing(self):
        rows = behind(self.TOO_MANY[:-1], do(0, 0, 0), leave(5), leave(5), state(0), person(0), OPEN, do(0, 1, 5))
        self.assertEqual(rows, [[1], [-75], [-75], [0, 4], [7], [1], [0]])

    def test_could_not_end_is_named_before_it(self):
        for far, stuck in ((0, 1), (1, 0)):
            calls = [do(far, 0, 0), do(stuck, 2, 0), leave(5), do(stuck, 3, 5), leave(5), do(far, 1, 5), leave(5)]
            with self.subTest(far=far, stuck=stuck):
                self.assertEqual(behind(self.TOO_MANY, *calls), [[1], [1], [-33], [0], [-75], [0], [0]])

    def test_too_many_alone(self):
        for far, ended in ((0, 1), (1, 0)):
            calls = [do(ended, 0, 0), do(ended, 1, 5), do(far, 0, 0), leave(5)]
            with self.subTest(far=far, ended=ended):
                self.assertEqual(behind(self.TOO_MANY, *calls), [[1], [0], [1], [-75]])

    def test_could_not_end_alone(self):
        self.assertEqual(behind(self.CAN, do(0, 0, 0), do(1, 2, 0), leave(5)), [[1], [1], [-33]])

    def test_no_such_person_is_named_before(self):
        self.assertEqual(behind(self.TOO_MANY, leave(7), leave(6), leave(6)), [[-2], [0], [-2]])


class Next(unittest.TestCase):
    """Whatever was called, no case is ever too many to tell; so next never answers that."""

    def test_behind_all_that_was_refused_for_it(self):
        rows = behind(Person.PREPARED, ONE_MORE, next_of(0), do(0, 3, 1), ONE_MORE, next_of(0), OPEN, next_of(1))
        self.assertEqual(rows, [[-75], [3, 0, 0], [3], [5], [3, 0, 0], [-75], [-2]])

    def test_down_to_the_end_from_1024(self):
        rows = behind(Person.PREPARED, do(0, 0, 0), next_of(0), do(0, 1, 0), next_of(0), do(0, 2, 0), next_of(0))
        self.assertEqual(rows, [[2], [2, 1, 0], [1], [1, 2, 0], [0], [0]])
