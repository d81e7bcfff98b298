"""Point 1: begin."""

import unittest

from endingwork.order import answers
from helper import BEGIN, OPEN, READY, SHORTEST, apart, asked, do, flat, last, leave, next_of, person, state, work


class Begin(unittest.TestCase):
    def test_answers_0_first(self):
        self.assertEqual(answers([0]), [1, 0])

    def test_answers_0_again(self):
        self.assertEqual(answers([0, 0, 0]), [1, 0, 1, 0, 1, 0])

    def test_answers_0_behind_anything(self):
        self.assertEqual(last(*SHORTEST, person(1), READY, BEGIN), [0])

    def test_leaves_no_steps(self):
        full = [work(1, 2)] * 16
        self.assertEqual(asked(*full, BEGIN, work(1, 2), work(1, 2))[-2:], [[0], [1]])

    def test_leaves_no_steps_to_tell_apart(self):
        self.assertEqual(last(work(1, 2), work(1, 2), BEGIN, apart(0, 1)), [-22])

    def test_leaves_no_steps_for_ready(self):
        self.assertEqual(last(*SHORTEST, BEGIN, READY), [2, 1])

    def test_leaves_no_people(self):
        full = [person(1)] * 8
        self.assertEqual(asked(*full, BEGIN, person(1), person(1))[-2:], [[0], [1]])

    def test_leaves_nothing_told_apart(self):
        two = [work(1, 2), work(1, 2)]
        tellings = [apart(0, 1)] * 32
        rows = asked(*two, *tellings, BEGIN, *two, *tellings, apart(0, 1))
        self.assertEqual(rows[-33:], [[0]] * 32 + [[-28]])

    def test_an_order_is_taken_no_more(self):
        rows = asked(*SHORTEST, READY, BEGIN, work(1, 2), work(1, 2), apart(0, 1), READY)
        self.assertEqual(rows, [[0], [0], [0], [0], [1], [0], [0]])

    def test_leaves_no_cases(self):
        rows = asked(*SHORTEST, person(1), READY, OPEN, OPEN, BEGIN, state(0), next_of(1), do(0, 0, 0))
        self.assertEqual(rows[-4:], [[0], [-2], [-2], [-2]])

    def test_leaves_no_cases_for_the_next_order(self):
        again = [*SHORTEST, person(1), READY]
        rows = asked(*again, *[OPEN] * 16, BEGIN, *again, state(0), leave(0), person(1), OPEN, state(0), state(1))
        self.assertEqual(rows[-6:], [[-2], [0], [1], [0], [0, 1], [-2]])

    def test_leaves_nobody_who_did_anything_or_left(self):
        two = [work(1, 4), work(4, 2)]
        rows = asked(*two, apart(0, 1), person(1), person(1), READY, OPEN, do(0, 0, 0), leave(0), BEGIN,
                     leave(0), *two, person(1), READY, OPEN, do(0, 0, 0), next_of(0), do(0, 1, 0))
        self.assertEqual(rows[9:], [[0], [-2], [0], [1], [0], [0], [0], [1], [1, 1, 0], [0]])

    def test_leaves_nothing_of_how_far_a_case_was(self):
        # The same marks and people with other steps.
        rows = asked(*SHORTEST, person(1), READY, OPEN, next_of(0), BEGIN,
                     work(1, 4), work(4, 2), person(1), READY, OPEN, next_of(0), BEGIN,
                     work(1, 2, 1), person(1), READY, OPEN)
        self.assertEqual([rows[4], rows[11], rows[16]], [[1, 0, 0], [2, 0, 0], [-33]])

    def test_the_list_may_be_begun_anew_many_times(self):
        round_of_calls = [BEGIN, *SHORTEST, person(3), READY, READY]
        self.assertEqual(answers(flat(round_of_calls * 50)), [1, 0, 1, 0, 1, 0, 1, 0, 1, -16] * 50)
