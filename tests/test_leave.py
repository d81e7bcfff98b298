"""Point 8: leave; and person where there are cases (point 2)."""

import unittest

from helper import BEGIN, LARGEST, OPEN, READY, SHORTEST, apart, asked, behind, do, last, leave, next_of, parts
from helper import person, places, state, work

TWO = [work(1, places(2), 0), work(places(2), 2, 1)]


class NoSuchPerson(unittest.TestCase):
    def test_one_who_never_came(self):
        self.assertEqual(last(leave(0)), [-2])
        for who in (2, 3, 8, LARGEST):
            self.assertEqual(last(person(1), person(1), leave(who)), [-2], who)

    def test_one_who_left(self):
        self.assertEqual(asked(person(1), person(1), leave(0), leave(0), leave(1), leave(1), leave(0)),
                         [[0], [1], [0], [-2], [0], [-2], [-2]])

    def test_one_who_left_and_would_be_needed(self):
        rows = behind([*SHORTEST, person(1), person(1), READY, OPEN], leave(1), leave(1), leave(0), leave(1))
        self.assertEqual(rows, [[0], [-2], [-33], [-2]])

    def test_one_who_plays_no_parts_is_there(self):
        self.assertEqual(asked(person(0), leave(0), leave(0)), [[0], [0], [-2]])

    def test_behind_another_begin(self):
        self.assertEqual(asked(person(1), BEGIN, leave(0), person(1), leave(0))[1:], [[0], [-2], [0], [0]])


class CouldNotEnd(unittest.TestCase):
    def test_the_only_one(self):
        rows = behind([*TWO, person(3), READY, OPEN], leave(0), state(0), next_of(0), do(0, 0, 0), leave(0),
                      do(0, 1, 0), leave(0))
        self.assertEqual(rows, [[-33], [0, 1], [2, 0, 0], [1], [-33], [0], [0]])

    def test_the_only_one_for_a_part_that_comes_later(self):
        prepared = [*TWO, person(parts(0)), person(parts(1)), READY, OPEN]
        self.assertEqual(behind(prepared, leave(1), leave(0), do(0, 0, 0), leave(1), leave(0), do(0, 1, 1), leave(1)),
                         [[-33], [-33], [1], [-33], [0], [0], [0]])

    def test_one_of_two_for_two_that_are_apart(self):
        prepared = [*TWO, apart(0, 1), person(3), person(3), READY, OPEN]
        self.assertEqual(behind(prepared, leave(0), leave(1), do(0, 0, 1), leave(0), leave(1), do(0, 1, 0), leave(0)),
                         [[-33], [-33], [1], [-33], [0], [0], [0]])

    def test_some_case(self):
        # The first has ended and the third is at the second step; only the second needs the first person.
        prepared = [*TWO, person(parts(0)), person(parts(1)), READY, OPEN, OPEN, OPEN,
                    do(0, 0, 0), do(0, 1, 1), do(2, 0, 0)]
        self.assertEqual(behind(prepared, leave(0), do(1, 0, 0), leave(0)), [[-33], [1], [0]])

    def test_each_case_is_asked(self):
        for k in range(16):
            others = [do(j, 0, 0) for j in range(16) if j != k]
            rows = behind([*SHORTEST, person(1), READY, *[OPEN] * 16], *others, leave(0), do(k, 0, 0), leave(0))
            self.assertEqual(rows[-3:], [[-33], [0], [0]], k)

    def test_what_was_done_in_the_case_matters(self):
        # The first of the two cases needs the third person, since the second did what is apart.
        prepared = [*TWO, apart(0, 1), person(parts(0)), person(3), person(parts(1)), READY, OPEN]
        self.assertEqual(behind(prepared, do(0, 0, 1), leave(2), leave(0)), [[1], [-33], [0]])
        self.assertEqual(behind(prepared, do(0, 0, 0), leave(2), leave(1)), [[1], [0], [-33]])

    def test_a_refusal_changes_nothing(self):
        prepared = [*TWO, person(3), READY, OPEN]
        rows = behind(prepared, leave(0), leave(0), leave(1), next_of(0), do(0, 0, 0), person(3), leave(0), leave(1))
        self.assertEqual(rows, [[-33], [-33], [-2], [2, 0, 0], [1], [1], [0], [-33]])


class Gone(unittest.TestCase):
    def test_before_there_is_an_order(self):
        self.assertEqual(asked(person(1), leave(0), *SHORTEST, READY, OPEN, person(1), OPEN),
                         [[0], [0], [0], [0], [-33], [1], [0]])

    def test_without_cases(self):
        self.assertEqual(asked(*SHORTEST, person(1), READY, leave(0), OPEN)[-2:], [[0], [-33]])

    def test_one_who_is_not_needed(self):
        self.assertEqual(behind([*TWO, person(3), person(3), person(0), READY, OPEN], leave(2), leave(0), next_of(0)),
                         [[0], [0], [2, 0, 1]])

    def test_it_may_be_longer_without_them(self):
        steps = [work(1, 2, 5), *TWO]
        prepared = [*steps, person(3), person(parts(5)), READY, OPEN]
        self.assertEqual(behind(prepared, next_of(0), leave(1), next_of(0)), [[1, 0, 1], [0], [2, 1, 0]])

    def test_they_do_nothing(self):
        prepared = [*TWO, person(3), person(3), READY, OPEN, leave(0)]
        self.assertEqual(behind(prepared, do(0, 0, 0), do(0, 0, 1), do(0, 1, 0), do(0, 1, 1)),
                         [[-1], [1], [-1], [0]])

    def test_they_still_count_towards_the_8(self):
        rows = asked(*[person(1)] * 8, leave(0), leave(7), person(1), leave(3), person(1))
        self.assertEqual(rows[8:], [[0], [0], [-28], [0], [-28]])
        rows = asked(person(1), leave(0), person(1), leave(1), *[person(1)] * 7)
        self.assertEqual(rows[4:], [[2], [3], [4], [5], [6], [7], [-28]])

    def test_numbers_of_others_stay(self):
        prepared = [*TWO, person(0), person(parts(0)), person(parts(1)), READY, OPEN]
        self.assertEqual(behind(prepared, leave(0), do(0, 0, 2), do(0, 0, 1), do(0, 1, 1), do(0, 1, 2)),
                         [[0], [-1], [1], [-1], [0]])

    def test_what_they_did_stays(self):
        # The case goes on from where they left it.
        prepared = [*TWO, apart(0, 1), person(3), person(3), READY, OPEN]
        self.assertEqual(behind(prepared, do(0, 0, 0), leave(0), state(0), next_of(0), do(0, 1, 1)),
                         [[1], [0], [0, 4], [1, 1, 1], [0]])

    def test_who_comes_then_is_another(self):
        # The newcomer did nothing, and has another number than the one who left.
        prepared = [*TWO, apart(0, 1), person(3), person(parts(1)), READY, OPEN]
        self.assertEqual(behind(prepared, do(0, 0, 0), leave(0), person(3), do(0, 1, 0), do(0, 1, 2)),
                         [[1], [0], [2], [-1], [0]])


class Newcomers(unittest.TestCase):
    def test_they_count_for_the_cases_that_there_are(self):
        steps = [work(1, 2, 5), *TWO]
        prepared = [*steps, person(3), READY, OPEN, OPEN, do(1, 1, 0)]
        rows = behind(prepared, next_of(0), next_of(1), leave(0), person(parts(5)), next_of(0), next_of(1), leave(0),
                      do(1, 2, 0), leave(0), do(0, 0, 1))
        self.assertEqual(rows, [[2, 1, 0], [1, 2, 0], [-33], [1], [1, 0, 1], [1, 2, 0], [-33], [0], [0], [0]])

    def test_they_may_do_what_another_must_not(self):
        prepared = [*TWO, apart(0, 1), person(3), person(parts(0)), READY, OPEN]
        self.assertEqual(behind(prepared, do(0, 0, 0), person(parts(1)), do(0, 0, 0), next_of(0), leave(0)),
                         [[-33], [2], [1], [1, 1, 2], [0]])

    def test_one_who_plays_nothing_changes_nothing(self):
        prepared = [*TWO, person(3), READY, OPEN]
        self.assertEqual(behind(prepared, next_of(0), person(0), next_of(0), leave(0), leave(1)),
                         [[2, 0, 0], [1], [2, 0, 0], [-33], [0]])

    def test_refusals_behind_cases(self):
        prepared = [*TWO, person(3), READY, OPEN]
        rows = behind(prepared, person(65536), *[person(1)] * 8, person(LARGEST), next_of(0))
        self.assertEqual(rows, [[-22]] + [[k] for k in range(1, 8)] + [[-28], [-22], [2, 0, 0]])
