"""Point 1: begin."""

import unittest

from endingwork.order import answers
from helper import BEGIN, READY, SHORTEST, apart, asked, flat, last, person, work


class Begin(unittest.TestCase):
    def test_answers_0_first(self):
        self.assertEqual(answers([0]), [1, 0])

    def test_answers_0_again(self):
        self.assertEqual(answers([0, 0, 0]), [1, 0, 1, 0, 1, 0])

    def test_answers_0_behind_anything(self):
        self.assertEqual(last(*SHORTEST, person(1), READY, BEGIN), [0])

    def test_leaves_no_steps(self):
        full = [work(1, 2)] * 16
        self.assertEqual(asked(*full, BEGIN, work(1, 2), work(1, 2))[-2:], [[0], [1]])

    def test_leaves_no_steps_to_tell_apart(self):
        self.assertEqual(last(work(1, 2), work(1, 2), BEGIN, apart(0, 1)), [-22])

    def test_leaves_no_steps_for_ready(self):
        self.assertEqual(last(*SHORTEST, BEGIN, READY), [2, 1])

    def test_leaves_no_people(self):
        full = [person(1)] * 8
        self.assertEqual(asked(*full, BEGIN, person(1), person(1))[-2:], [[0], [1]])

    def test_leaves_nothing_told_apart(self):
        two = [work(1, 2), work(1, 2)]
        tellings = [apart(0, 1)] * 32
        rows = asked(*two, *tellings, BEGIN, *two, *tellings, apart(0, 1))
        self.assertEqual(rows[-33:], [[0]] * 32 + [[-28]])

    def test_an_order_is_taken_no_more(self):
        rows = asked(*SHORTEST, READY, BEGIN, work(1, 2), work(1, 2), apart(0, 1), READY)
        self.assertEqual(rows, [[0], [0], [0], [0], [1], [0], [0]])

    def test_the_list_may_be_begun_anew_many_times(self):
        round_of_calls = [BEGIN, *SHORTEST, person(3), READY, READY]
        self.assertEqual(answers(flat(round_of_calls * 50)), [1, 0, 1, 0, 1, 0, 1, 0, 1, -16] * 50)
