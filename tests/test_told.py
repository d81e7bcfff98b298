"""Point 2: work, apart, person."""

import unittest

from helper import LARGEST, READY, SHORTEST, apart, asked, last, person, places, work

TWO = [work(1, 4), work(4, 2)]


class Work(unittest.TestCase):
    def test_steps_are_numbered_as_they_come(self):
        self.assertEqual(asked(work(1, 4), work(4, 8, 3), work(8, 2, 15)), [[0], [1], [2]])

    def test_takes(self):
        self.assertEqual(last(work(0, 2)), [-22])
        self.assertEqual(last(work(1, 2)), [0])
        self.assertEqual(last(work(65533, 2)), [0])
        for takes in (65535, 65536, 65537, 65536 * 2, LARGEST):
            self.assertEqual(last(work(takes, 2)), [-22], takes)

    def test_takes_without_place_1(self):
        for takes in (2, 3, 6, 7, 32770):
            self.assertEqual(last(work(takes, 4)), [-22], takes)
        for takes in (1, 4, 5, 8, 13, 32768):
            self.assertEqual(last(work(takes, 4)), [0], takes)

    def test_gives(self):
        for gives in (0, 65536, 65537, 65538, LARGEST):
            self.assertEqual(last(work(1, gives)), [-22], gives)
        for gives in (1, 2, 3, 65534, 65535):
            self.assertEqual(last(work(1, gives)), [0], gives)

    def test_part(self):
        for part in (0, 1, 14, 15):
            self.assertEqual(last(work(1, 2, part)), [0], part)
        for part in (16, 17, 65535, LARGEST):
            self.assertEqual(last(work(1, 2, part)), [-22], part)

    def test_at_most_16(self):
        rows = asked(*[work(1, 2)] * 18)
        self.assertEqual(rows, [[k] for k in range(16)] + [[-28], [-28]])

    def test_wrong_numbers_are_named_before_too_many(self):
        full = [work(1, 2)] * 16
        for wrong in (work(0, 2), work(2, 2), work(1, 0), work(65536, 2), work(1, 65536), work(1, 2, 16)):
            self.assertEqual(last(*full, wrong), [-22], wrong)

    def test_behind_an_order_that_is_taken(self):
        for call in (work(1, 2), work(0, 0, 16), work(2, 2), work(LARGEST, LARGEST, LARGEST)):
            self.assertEqual(last(*SHORTEST, READY, call), [-16], call)

    def test_taken_is_named_before_too_many(self):
        full = [work(1, 2)] * 16
        self.assertEqual(asked(*full, READY, work(1, 2))[-2:], [[0], [-16]])

    def test_a_refusal_changes_nothing(self):
        refused = [work(0, 2), work(2, 4), work(1, 0), work(1, 65536), work(1, 4, 16)]
        self.assertEqual(asked(*refused, work(1, 2), *refused, READY)[-7:], [[0]] + [[-22]] * 5 + [[0]])

    def test_the_17th_changes_nothing(self):
        # A 17th step that was kept would never be done, and ready would answer 4.
        full = [work(1, 2)] * 16
        self.assertEqual(asked(*full, work(4, 2), READY)[-2:], [[-28], [0]])


class Apart(unittest.TestCase):
    def test_either_way_round(self):
        self.assertEqual(asked(*TWO, apart(0, 1), apart(1, 0))[-2:], [[0], [0]])

    def test_a_step_with_itself(self):
        self.assertEqual(asked(*TWO, apart(0, 0), apart(1, 1))[-2:], [[-22], [-22]])

    def test_a_step_that_is_not_there(self):
        for a, b in ((0, 2), (2, 0), (1, 2), (2, 3), (2, 2), (0, LARGEST), (LARGEST, 1), (LARGEST, LARGEST)):
            self.assertEqual(last(*TWO, apart(a, b)), [-22], (a, b))

    def test_no_steps(self):
        self.assertEqual(asked(apart(0, 1), apart(0, 0)), [[-22], [-22]])

    def test_the_last_of_16(self):
        full = [work(1, 2)] * 16
        self.assertEqual(asked(*full, apart(15, 0), apart(0, 16), apart(16, 15))[-3:], [[0], [-22], [-22]])

    def test_at_most_32(self):
        full = [work(1, 2)] * 16
        pairs = [(a, b) for a in range(16) for b in range(a)]
        rows = asked(*full, *[apart(a, b) for a, b in pairs[:34]])
        self.assertEqual(rows[16:], [[0]] * 32 + [[-28], [-28]])

    def test_what_is_told_again_counts_again(self):
        rows = asked(*TWO, *[apart(0, 1), apart(1, 0)] * 17)
        self.assertEqual(rows[2:], [[0]] * 32 + [[-28], [-28]])

    def test_wrong_numbers_are_named_before_too_many(self):
        rows = asked(*TWO, *[apart(0, 1)] * 32, apart(0, 0), apart(0, 2), apart(0, 1))
        self.assertEqual(rows[-3:], [[-22], [-22], [-28]])

    def test_behind_an_order_that_is_taken(self):
        rows = asked(*TWO, READY, apart(0, 1), apart(0, 0), apart(5, LARGEST))
        self.assertEqual(rows[2:], [[0], [-16], [-16], [-16]])

    def test_taken_is_named_before_too_many(self):
        self.assertEqual(asked(*TWO, *[apart(0, 1)] * 32, READY, apart(0, 1))[-2:], [[0], [-16]])

    def test_a_refusal_is_not_counted(self):
        refused = [apart(0, 0), apart(0, 2), apart(LARGEST, 0)] * 20
        rows = asked(*TWO, *refused, *[apart(0, 1)] * 33)
        self.assertEqual(rows[-33:], [[0]] * 32 + [[-28]])


class Person(unittest.TestCase):
    def test_people_are_numbered_as_they_come(self):
        self.assertEqual(asked(person(1), person(0), person(1)), [[0], [1], [2]])

    def test_parts(self):
        for parts in (0, 1, 32768, 65534, 65535):
            self.assertEqual(last(person(parts)), [0], parts)
        for parts in (65536, 65537, 131072, LARGEST):
            self.assertEqual(last(person(parts)), [-22], parts)

    def test_at_most_8(self):
        self.assertEqual(asked(*[person(1)] * 10), [[k] for k in range(8)] + [[-28], [-28]])

    def test_wrong_parts_are_named_before_too_many(self):
        self.assertEqual(asked(*[person(1)] * 8, person(65536), person(65535))[-2:], [[-22], [-28]])

    def test_a_refusal_changes_nothing(self):
        rows = asked(*[person(65536)] * 9, *[person(1), person(LARGEST)] * 8, person(1))
        self.assertEqual(rows[9:], [row for k in range(8) for row in ([k], [-22])] + [[-28]])

    def test_behind_an_order_that_is_taken(self):
        rows = asked(person(1), *SHORTEST, READY, person(2), person(65536))
        self.assertEqual(rows, [[0], [0], [0], [1], [-22]])

    def test_at_most_8_before_and_behind_ready(self):
        rows = asked(*[person(1)] * 5, *SHORTEST, READY, *[person(1)] * 4)
        self.assertEqual(rows[-4:], [[5], [6], [7], [-28]])

    def test_the_three_are_counted_each_for_itself(self):
        rows = asked(person(1), work(1, places(2)), person(2), work(places(2), 2), apart(0, 1), person(4))
        self.assertEqual(rows, [[0], [0], [1], [1], [0], [2]])
