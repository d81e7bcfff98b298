"""Point 4: open."""

import unittest

from helper import BEGIN, OPEN, READY, SHORTEST, apart, asked, do, last, leave, next_of, person, places, state, work

TWO = [work(1, places(2), 0), work(places(2), 2, 1)]


class NotTaken(unittest.TestCase):
    def test_nothing_was_told(self):
        self.assertEqual(last(OPEN), [-16])

    def test_before_ready(self):
        self.assertEqual(asked(*SHORTEST, person(1), OPEN, READY, OPEN), [[0], [0], [-16], [0], [0]])

    def test_ready_found_a_fault(self):
        self.assertEqual(asked(work(1, places(2)), person(1), READY, OPEN)[-2:], [[2, 1], [-16]])

    def test_behind_another_begin(self):
        rows = asked(*SHORTEST, person(1), READY, OPEN, BEGIN, OPEN, *SHORTEST, person(1), OPEN, READY, OPEN)
        self.assertEqual(rows[3:], [[0], [0], [-16], [0], [0], [-16], [0], [0]])

    def test_named_before_it_could_not_end(self):
        self.assertEqual(last(*SHORTEST, OPEN), [-16])


class AtMost16(unittest.TestCase):
    def test_numbers_from_0_and_no_17th(self):
        rows = asked(*SHORTEST, person(1), READY, *[OPEN] * 18)
        self.assertEqual(rows[3:], [[k] for k in range(16)] + [[-28], [-28]])

    def test_what_has_ended_counts(self):
        calls = [call for k in range(17) for call in (OPEN, do(k, 0, 0))]
        rows = asked(*SHORTEST, person(1), READY, *calls)
        self.assertEqual(rows[3:], [row for k in range(16) for row in ([k], [0])] + [[-28], [-2]])

    def test_a_refusal_does_not_count(self):
        rows = asked(*SHORTEST, READY, *[OPEN] * 20, person(1), *[OPEN] * 17)
        self.assertEqual(rows[2:], [[-33]] * 20 + [[0]] + [[k] for k in range(16)] + [[-28]])

    def test_named_before_it_could_not_end(self):
        # With all cases ended the one person isn't needed for any of them.
        calls = [OPEN] * 16 + [do(k, 0, 0) for k in range(16)] + [leave(0), OPEN]
        self.assertEqual(asked(*SHORTEST, person(1), READY, *calls)[-2:], [[0], [-28]])


class CouldNotEnd(unittest.TestCase):
    def test_nobody(self):
        self.assertEqual(last(*SHORTEST, READY, OPEN), [-33])

    def test_nobody_plays_the_part(self):
        self.assertEqual(last(*SHORTEST, person(0), person(65534), READY, OPEN), [-33])

    def test_nobody_plays_a_later_part(self):
        self.assertEqual(last(*TWO, person(1), READY, OPEN), [-33])
        self.assertEqual(last(*TWO, person(2), READY, OPEN), [-33])

    def test_everybody_left(self):
        rows = asked(*TWO, person(3), READY, leave(0), OPEN, person(3), OPEN)
        self.assertEqual(rows[-4:], [[0], [-33], [1], [0]])

    def test_one_person_for_two_that_are_apart(self):
        self.assertEqual(asked(*TWO, apart(0, 1), person(3), READY, OPEN)[-2:], [[0], [-33]])
        self.assertEqual(asked(*TWO, apart(1, 0), person(3), READY, OPEN)[-2:], [[0], [-33]])

    def test_two_people_for_two_that_are_apart(self):
        self.assertEqual(last(*TWO, apart(0, 1), person(3), person(1), READY, OPEN), [0])
        self.assertEqual(last(*TWO, apart(0, 1), person(3), person(2), READY, OPEN), [0])
        self.assertEqual(last(*TWO, apart(0, 1), person(3), person(4), READY, OPEN), [-33])

    def test_two_people_for_three_that_are_apart(self):
        three = [work(1, places(2)), work(places(2), places(3)), work(places(3), 2)]
        all_apart = [apart(0, 1), apart(1, 2), apart(2, 0)]
        two = [person(1), person(1)]
        self.assertEqual(last(*three, *all_apart, *two, READY, OPEN), [-33])
        self.assertEqual(last(*three, *all_apart, *two, person(1), READY, OPEN), [0])
        self.assertEqual(last(*three, *all_apart[:2], *two, READY, OPEN), [0])

    def test_a_way_round_what_nobody_plays(self):
        steps = [work(1, 2, 5), work(1, places(2)), work(places(2), 2)]
        self.assertEqual(asked(*steps, person(1), READY, OPEN, next_of(0))[-2:], [[0], [2, 1, 0]])

    def test_one_of_two_that_go_side_by_side(self):
        steps = [work(1, places(2, 3)), work(places(2), places(4), 1), work(places(3), places(5), 2),
                 work(places(4, 5), 2)]
        self.assertEqual(last(*steps, person(3), READY, OPEN), [-33])
        self.assertEqual(last(*steps, person(3), person(4), READY, OPEN), [0])


class ANewCase(unittest.TestCase):
    def test_is_as_at_the_beginning(self):
        rows = asked(*TWO, person(3), READY, OPEN, do(0, 0, 0), OPEN, state(1), next_of(1), state(0), next_of(0))
        self.assertEqual(rows[4:], [[0], [1], [1], [0, 1], [2, 0, 0], [0, 4], [1, 1, 0]])

    def test_nobody_did_anything_in_it(self):
        calls = [OPEN, do(0, 0, 0), OPEN, do(1, 0, 1), do(1, 1, 0), do(0, 1, 1)]
        rows = asked(*TWO, apart(0, 1), person(3), person(3), READY, *calls)
        self.assertEqual(rows[6:], [[0], [1], [1], [1], [0], [0]])

    def test_a_refusal_changes_nothing(self):
        rows = asked(*TWO, person(3), READY, OPEN, leave(0), do(0, 0, 0), do(0, 1, 0), leave(0), OPEN, OPEN,
                     state(0), state(1), person(3), OPEN, state(1))
        self.assertEqual(rows[4:], [[0], [-33], [1], [0], [0], [-33], [-33], [1, 2], [-2], [1], [1], [0, 1]])
