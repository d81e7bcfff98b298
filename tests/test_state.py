"""Point 7: state."""

import unittest

from helper import BEGIN, LARGEST, OPEN, READY, SHORTEST, asked, do, last, person, places, state, work

SIDE_BY_SIDE = [work(1, places(2, 15)), work(places(2), places(4)), work(places(15), places(5)), work(places(4, 5), 2)]


class State(unittest.TestCase):
    def test_no_case_at_all(self):
        self.assertEqual(asked(state(0), *SHORTEST, state(0), person(1), READY, state(0)),
                         [[-2], [0], [-2], [0], [0], [-2]])

    def test_no_such_case(self):
        for k in (1, 2, 15, 16, LARGEST):
            self.assertEqual(last(*SHORTEST, person(1), READY, OPEN, state(k)), [-2], k)

    def test_the_last_of_16(self):
        rows = asked(*SHORTEST, person(1), READY, *[OPEN] * 16, state(15), state(16))
        self.assertEqual(rows[-2:], [[0, 1], [-2]])

    def test_at_the_beginning_on_the_way_and_at_the_end(self):
        calls = [state(0)] + [call for step in (0, 2, 1, 3) for call in (do(0, step, 0), state(0))]
        rows = asked(*SIDE_BY_SIDE, person(1), READY, OPEN, *calls)
        self.assertEqual(rows[7::2], [[0, 1], [0, places(2, 15)], [0, places(2, 5)], [0, places(4, 5)], [1, 2]])

    def test_each_case_for_itself(self):
        calls = [OPEN, OPEN, OPEN, do(1, 0, 0), do(2, 0, 0), do(2, 1, 0), state(0), state(1), state(2)]
        rows = asked(*SIDE_BY_SIDE, person(1), READY, *calls)
        self.assertEqual(rows[-3:], [[0, 1], [0, places(2, 15)], [0, places(4, 15)]])

    def test_it_changes_nothing(self):
        rows = asked(*SHORTEST, person(1), READY, OPEN, *[state(0)] * 5, do(0, 0, 0), *[state(0)] * 5)
        self.assertEqual(rows[4:], [[0, 1]] * 5 + [[0]] + [[1, 2]] * 5)

    def test_behind_another_begin(self):
        self.assertEqual(last(*SHORTEST, person(1), READY, OPEN, BEGIN, state(0)), [-2])
