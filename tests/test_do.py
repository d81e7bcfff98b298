"""Point 5: do."""

import unittest

from helper import LARGEST, OPEN, READY, SHORTEST, apart, asked, behind, do, last, leave, next_of, parts, person
from helper import places, state, work

# One behind another, with a part each, and three people: one for all, one for the first, one for the second.
TWO = [work(1, places(2), 0), work(places(2), 2, 1)]
TWO_WITH_PEOPLE = [*TWO, person(parts(0, 1)), person(parts(0)), person(parts(1)), READY, OPEN]

# Two that are apart, and two people who play both.
APART = [work(1, places(2)), work(places(2), 2), apart(0, 1), person(1), person(1), READY, OPEN, OPEN]


class NoSuch(unittest.TestCase):
    def test_no_case(self):
        for k in (1, 2, 16, LARGEST):
            self.assertEqual(last(*TWO_WITH_PEOPLE, do(k, 0, 0)), [-2], k)

    def test_no_case_at_all(self):
        self.assertEqual(asked(do(0, 0, 0), *SHORTEST, person(1), do(0, 0, 0), READY, do(0, 0, 0)),
                         [[-2], [0], [0], [-2], [0], [-2]])

    def test_no_step(self):
        for step in (2, 3, 16, LARGEST):
            self.assertEqual(last(*TWO_WITH_PEOPLE, do(0, step, 0)), [-2], step)

    def test_one_who_never_came(self):
        for who in (3, 8, LARGEST):
            self.assertEqual(last(*TWO_WITH_PEOPLE, do(0, 0, who)), [-2], who)

    def test_named_before_all_others(self):
        # The second step can't be done yet, and the second person doesn't play its part.
        self.assertEqual(behind(TWO_WITH_PEOPLE, do(0, 1, 1), do(1, 1, 1), do(0, 1, 3), do(0, 2, 1)),
                         [[-11], [-2], [-2], [-2]])

    def test_a_17th_case(self):
        rows = asked(*SHORTEST, person(1), READY, *[OPEN] * 17, do(16, 0, 0), do(15, 0, 0))
        self.assertEqual(rows[-3:], [[-28], [-2], [0]])


class CannotBeDone(unittest.TestCase):
    def test_not_yet(self):
        self.assertEqual(last(*TWO_WITH_PEOPLE, do(0, 1, 0)), [-11])

    def test_not_any_more(self):
        self.assertEqual(last(*TWO_WITH_PEOPLE, do(0, 0, 0), do(0, 0, 0)), [-11])

    def test_of_two_places_one_is_marked(self):
        steps = [work(1, places(2, 3)), work(places(2), places(4)), work(places(3), places(5)), work(places(4, 5), 2)]
        calls = [do(0, 3, 0), do(0, 0, 0), do(0, 3, 0), do(0, 2, 0), do(0, 3, 0), do(0, 2, 0), do(0, 1, 0),
                 do(0, 3, 0)]
        self.assertEqual(behind([*steps, person(1), READY, OPEN], *calls),
                         [[-11], [3], [-11], [2], [-11], [-11], [1], [0]])

    def test_a_case_that_has_ended(self):
        ended = [*TWO_WITH_PEOPLE, do(0, 0, 0), do(0, 1, 0)]
        calls = [do(0, step, who) for step in (0, 1) for who in (0, 1, 2)]
        self.assertEqual(behind(ended, *calls, state(0), next_of(0)), [[-11]] * 6 + [[1, 2], [0]])

    def test_by_the_marks_of_this_case_alone(self):
        self.assertEqual(behind(TWO_WITH_PEOPLE, OPEN, do(1, 0, 0), do(0, 1, 0), do(1, 1, 0)),
                         [[1], [1], [-11], [0]])

    def test_named_before_the_person(self):
        # One who left, and one who doesn't play the part.
        self.assertEqual(behind(TWO_WITH_PEOPLE, leave(2), do(0, 1, 2), do(0, 1, 1), do(0, 0, 0), do(0, 1, 2)),
                         [[0], [-11], [-11], [1], [-1]])

    def test_named_before_one_that_is_apart(self):
        self.assertEqual(behind(APART, do(0, 0, 0), do(0, 1, 1), do(0, 1, 0)), [[1], [0], [-11]])


class MayNot(unittest.TestCase):
    def test_a_part_that_is_not_played(self):
        self.assertEqual(behind(TWO_WITH_PEOPLE, do(0, 0, 2), do(0, 0, 1), do(0, 1, 1), do(0, 1, 2)),
                         [[-1], [1], [-1], [0]])

    def test_each_part(self):
        for part in range(16):
            prepared = [work(1, 2, part), person(parts(part)), person(65535 - parts(part)), person(65535), READY, OPEN]
            self.assertEqual(behind(prepared, do(0, 0, 1), do(0, 0, 0), OPEN, do(1, 0, 2)), [[-1], [0], [1], [0]])

    def test_no_parts(self):
        self.assertEqual(last(*SHORTEST, person(0), person(1), READY, OPEN, do(0, 0, 0)), [-1])

    def test_one_who_left(self):
        self.assertEqual(behind(TWO_WITH_PEOPLE, leave(1), do(0, 0, 1), do(0, 0, 0)), [[0], [-1], [1]])

    def test_one_who_left_and_never_did_play_it(self):
        self.assertEqual(behind(TWO_WITH_PEOPLE, leave(2), do(0, 0, 2)), [[0], [-1]])

    def test_named_before_one_that_is_apart(self):
        prepared = [*TWO, apart(0, 1), person(parts(0)), person(parts(0, 1)), person(parts(1)), READY, OPEN]
        # The first did one that is apart and doesn't play the part.
        self.assertEqual(behind(prepared, do(0, 0, 0), do(0, 1, 0)), [[1], [-1]])
        # The second did one that is apart and left.
        self.assertEqual(behind(prepared, do(0, 0, 1), do(0, 1, 1), leave(1), do(0, 1, 1), do(0, 1, 2)),
                         [[1], [-17], [0], [-1], [0]])


class DidOneApart(unittest.TestCase):
    def test_in_this_case(self):
        self.assertEqual(behind(APART, do(0, 0, 0), do(0, 1, 0)), [[1], [-17]])
        self.assertEqual(behind(APART, do(0, 0, 1), do(0, 1, 1)), [[1], [-17]])

    def test_told_the_other_way_round(self):
        turned = [apart(1, 0) if call == apart(0, 1) else call for call in APART]
        self.assertEqual(behind(turned, do(0, 0, 0), do(0, 1, 0), do(0, 1, 1)), [[1], [-17], [0]])

    def test_not_what_they_did_in_another_case(self):
        self.assertEqual(behind(APART, do(0, 0, 0), do(1, 0, 1), do(1, 1, 0)), [[1], [1], [0]])

    def test_not_what_another_did(self):
        self.assertEqual(behind(APART, do(0, 0, 0), do(0, 1, 1)), [[1], [0]])

    def test_not_a_step_that_is_apart_from_another(self):
        steps = [work(1, places(2)), work(places(2), places(3)), work(places(3), 2)]
        prepared = [*steps, apart(0, 2), person(1), person(1), READY, OPEN]
        self.assertEqual(behind(prepared, do(0, 0, 0), do(0, 1, 0), do(0, 2, 0), do(0, 2, 1)),
                         [[2], [1], [-17], [0]])

    def test_the_same_step_again(self):
        # Back and forth: nobody is apart from what they did themselves.
        steps = [work(1, places(2)), work(places(2), 1), work(places(2), 2)]
        prepared = [*steps, apart(0, 2), person(1), person(1), READY, OPEN]
        self.assertEqual(behind(prepared, do(0, 0, 0), do(0, 1, 0), do(0, 0, 0), do(0, 2, 0), do(0, 2, 1)),
                         [[1], [2], [1], [-17], [0]])

    def test_the_later_of_the_two_may_come_first(self):
        steps = [work(1, places(2, 3)), work(places(2), places(4)), work(places(3), places(5)), work(places(4, 5), 2)]
        prepared = [*steps, apart(1, 2), person(1), person(1), READY, OPEN]
        self.assertEqual(behind(prepared, do(0, 0, 0), do(0, 2, 0), do(0, 1, 0), do(0, 1, 1), do(0, 3, 0)),
                         [[3], [2], [-17], [1], [0]])

    def test_any_of_several_that_are_apart(self):
        first = [work(1, places(2)), work(1, places(3)), work(places(2), places(4)), work(places(3), places(4)),
                 work(places(4), 2)]
        prepared = [*first, *[apart(4, k) for k in range(4)], *[person(1)] * 3, READY, OPEN]
        self.assertEqual(behind(prepared, do(0, 1, 0), do(0, 3, 1), do(0, 4, 0), do(0, 4, 1), do(0, 4, 2)),
                         [[2], [1], [-17], [-17], [0]])

    def test_whoever_did_which(self):
        # Only who did step 1 may not do step 2, whoever did step 0, which is apart from another.
        steps = [work(1, places(2)), work(places(2), places(3)), work(places(3), 2), work(places(3), 2, 1)]
        prepared = [*steps, apart(1, 2), apart(0, 3), *[person(1)] * 8, READY, OPEN]
        for first in (0, 7):
            for second in range(8):
                for third in range(8):
                    rows = behind(prepared, do(0, 0, first), do(0, 1, second), do(0, 2, third))
                    self.assertEqual(rows, [[2], [1], [-17 if second == third else 0]], (first, second, third))

    def test_the_last_of_16_steps_and_the_last_of_8_people(self):
        chain = [work(1, places(2))] + [work(places(k), places(k + 1)) for k in range(2, 15)]
        chain += [work(places(15), places(2)), work(places(15), 2)]
        self.assertEqual(len(chain), 16)
        prepared = [*chain, apart(15, 13), *[person(1)] * 8, READY, OPEN]
        calls = [do(0, k, 7) for k in range(14)]
        self.assertEqual(behind(prepared, *calls, do(0, 15, 7), do(0, 15, 6)),
                         [[14 - k] for k in range(14)] + [[-17], [0]])


class CouldNotEndAnyMore(unittest.TestCase):
    def test_the_only_one_for_what_comes_then(self):
        prepared = [*TWO, apart(0, 1), person(parts(0, 1)), person(parts(0)), READY, OPEN]
        calls = [do(0, 0, 0), state(0), next_of(0), do(0, 0, 1), do(0, 1, 0)]
        self.assertEqual(behind(prepared, *calls), [[-33], [0, 1], [2, 0, 1], [1], [0]])

    def test_a_choice_that_nobody_can_bring_to_the_end(self):
        steps = [work(1, places(2)), work(1, places(3)), work(places(2), 2, 9), work(places(3), 2)]
        prepared = [*steps, person(1), READY, OPEN]
        self.assertEqual(behind(prepared, do(0, 0, 0), state(0), do(0, 1, 0), do(0, 3, 0)),
                         [[-33], [0, 1], [1], [0]])

    def test_two_left_for_three(self):
        # Three side by side that are all apart, with three people: the one who plays all must take what is left.
        steps = [work(1, places(2, 3, 4)), work(places(2), places(5), 1), work(places(3), places(6), 2),
                 work(places(4), places(7), 3), work(places(5, 6, 7), 2)]
        prepared = [*steps, apart(1, 2), apart(2, 3), apart(1, 3),
                    person(parts(0, 1, 2, 3)), person(parts(1)), person(parts(2)), READY, OPEN, do(0, 0, 0)]
        calls = [do(0, 1, 0), do(0, 2, 0), do(0, 3, 0), do(0, 1, 1), do(0, 2, 2), do(0, 4, 0)]
        self.assertEqual(behind(prepared, *calls), [[-33], [-33], [3], [2], [1], [0]])

    def test_the_newcomer_helps(self):
        prepared = [*TWO, apart(0, 1), person(parts(0, 1)), person(parts(0)), READY, OPEN]
        calls = [do(0, 0, 0), person(parts(1)), do(0, 0, 0), do(0, 1, 0), do(0, 1, 2)]
        self.assertEqual(behind(prepared, *calls), [[-33], [2], [1], [-17], [0]])

    def test_a_refusal_changes_nothing(self):
        prepared = [*TWO, apart(0, 1), person(parts(0, 1)), person(parts(0)), READY, OPEN]
        # Were the refused step kept for the first person, they couldn't do the second.
        refused = [do(0, 0, 0), do(1, 0, 0), do(0, 2, 0), do(0, 0, 2), do(0, 1, 0)]
        rows = behind(prepared, *refused, do(0, 0, 1), do(0, 1, 1), do(0, 1, 0))
        self.assertEqual(rows, [[-33], [-2], [-2], [-2], [-11], [1], [-1], [0]])


class Done(unittest.TestCase):
    def test_how_many_are_left_down_to_0(self):
        chain = [work(1, places(2))] + [work(places(k), places(k + 1)) for k in range(2, 15)] + [work(places(15), 2)]
        rows = behind([*chain, person(1), READY, OPEN], *[do(0, k, 0) for k in range(15)])
        self.assertEqual(rows, [[14 - k] for k in range(15)])

    def test_a_longer_way_or_round_and_round(self):
        steps = [work(1, 2), work(1, places(2)), work(places(2), places(3)), work(places(3), 2), work(1, 1),
                 work(places(2), 1)]
        calls = [do(0, 4, 0), do(0, 1, 0), do(0, 5, 0), do(0, 1, 0), do(0, 2, 0), do(0, 3, 0)]
        self.assertEqual(behind([*steps, person(1), READY, OPEN], *calls), [[1], [2], [1], [2], [1], [0]])

    def test_the_fewest_by_those_who_are_there(self):
        # The short way's part is played by nobody until somebody comes.
        steps = [work(1, places(2)), work(places(2), 2, 3), work(places(2), places(3)), work(places(3), 2)]
        rows = behind([*steps, person(1), READY, OPEN, OPEN], do(0, 0, 0), person(parts(3)), do(1, 0, 0), next_of(0))
        self.assertEqual(rows, [[2], [1], [1], [1, 1, 1]])

    def test_the_fewest_with_what_is_apart(self):
        # Whoever did the first may not take the short way.
        steps = [work(1, places(2)), work(places(2), 2, 3), work(places(2), places(3)), work(places(3), 2)]
        prepared = [*steps, apart(0, 1), person(parts(0, 3)), person(parts(0)), READY, OPEN, OPEN]
        self.assertEqual(behind(prepared, do(0, 0, 0), do(1, 0, 1)), [[2], [1]])

    def test_marks_that_are_taken_and_given(self):
        steps = [work(1, places(2, 3)), work(places(2, 3), places(2, 4)), work(places(2, 4), 2)]
        rows = behind([*steps, person(1), READY, OPEN], do(0, 0, 0), state(0), do(0, 1, 0), state(0), do(0, 2, 0))
        self.assertEqual(rows, [[2], [0, places(2, 3)], [1], [0, places(2, 4)], [0]])
