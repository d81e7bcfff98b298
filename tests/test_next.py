"""Point 6: next; and what holds of it (d)."""

import unittest
from itertools import product

from helper import BEGIN, LARGEST, OPEN, READY, SHORTEST, apart, asked, behind, do, last, leave, next_of, parts
from helper import person, places, state, work

CHAIN = [work(1, places(2)), work(places(2), places(3)), work(places(3), 2)]
SIDE_BY_SIDE = [work(places(4, 5), 2), work(places(3), places(5), 1), work(places(2), places(4), 2),
                work(1, places(2, 3))]


def followed(prepared):
    """Case 0 as next tells it, step by step: what next answers each time, the end's 0 among it."""
    calls = list(prepared)
    told = []
    while True:
        rows = asked(*calls, next_of(0))
        told.append(rows[-1])
        if rows[-1] == [0] or len(told) > 50:
            return told
        calls.append(do(0, rows[-1][1], rows[-1][2]))
        if last(*calls) != [rows[-1][0] - 1]:
            raise AssertionError(f"{rows[-1]} isn't one fewer but {last(*calls)}")


def plain_rows(steps, pairs, people, length):
    """All rows of so many steps and people that bring a case from the beginning to the end, with nobody doing two
    that are apart: looked for by trying all that could be written down."""
    found = []
    for row in product(product(range(len(steps)), range(len(people))), repeat=length):
        marks, fine = {0}, True
        for at, (step, who) in enumerate(row):
            takes, gives, part = steps[step]
            barred = any((other, who) in row[:at] for pair in pairs if step in pair for other in pair if other != step)
            if not takes <= marks or gives & (marks - takes) or part not in people[who] or barred:
                fine = False
                break
            marks = (marks - takes) | gives
        if fine and marks == {1}:
            found.append(row)
    return found


class NoSuchCase(unittest.TestCase):
    def test_none_at_all(self):
        self.assertEqual(asked(next_of(0), *SHORTEST, next_of(0), person(1), READY, next_of(0)),
                         [[-2], [0], [-2], [0], [0], [-2]])

    def test_beyond_the_last(self):
        for k in (1, 2, 16, LARGEST):
            self.assertEqual(last(*SHORTEST, person(1), READY, OPEN, next_of(k)), [-2], k)

    def test_behind_another_begin(self):
        self.assertEqual(last(*SHORTEST, person(1), READY, OPEN, BEGIN, next_of(0)), [-2])


class Ended(unittest.TestCase):
    def test_0_alone(self):
        self.assertEqual(last(*SHORTEST, person(1), READY, OPEN, do(0, 0, 0), next_of(0)), [0])

    def test_also_with_nobody_there(self):
        self.assertEqual(asked(*SHORTEST, person(1), READY, OPEN, do(0, 0, 0), leave(0), next_of(0))[-2:], [[0], [0]])


class HowFar(unittest.TestCase):
    def test_one_behind_another(self):
        self.assertEqual(followed([*CHAIN, person(1), READY, OPEN]), [[3, 0, 0], [2, 1, 0], [1, 2, 0], [0]])

    def test_side_by_side(self):
        told = followed([*SIDE_BY_SIDE, person(parts(0)), person(parts(1)), person(parts(2)), READY, OPEN])
        self.assertEqual(told, [[4, 3, 0], [3, 1, 1], [2, 2, 2], [1, 0, 0], [0]])

    def test_the_short_way_though_its_steps_are_not_the_least(self):
        steps = [work(1, places(2)), work(places(2), places(3)), work(places(3), 2), work(1, places(4)),
                 work(places(4), 2)]
        self.assertEqual(followed([*steps, person(1), READY, OPEN]), [[2, 3, 0], [1, 4, 0], [0]])

    def test_the_short_way_that_nobody_plays(self):
        steps = [work(1, 2, 1), *CHAIN]
        prepared = [*steps, person(1), READY, OPEN]
        self.assertEqual(behind(prepared, next_of(0), person(2), next_of(0)), [[3, 1, 0], [1], [1, 0, 1]])

    def test_the_longest_chain(self):
        chain = [work(1, places(2))] + [work(places(k), places(k + 1)) for k in range(2, 15)] + [work(places(15), 2)]
        told = followed([*chain, person(1), READY, OPEN])
        self.assertEqual(told, [[15 - k, k, 0] for k in range(15)] + [[0]])

    def test_it_changes_nothing(self):
        rows = behind([*CHAIN, person(1), READY, OPEN], *[next_of(0)] * 4, state(0), do(0, 0, 0), *[next_of(0)] * 4)
        self.assertEqual(rows, [[3, 0, 0]] * 4 + [[0, 1], [2]] + [[2, 1, 0]] * 4)

    def test_each_case_for_itself(self):
        rows = behind([*CHAIN, person(1), READY, OPEN, OPEN], do(1, 0, 0), next_of(0), next_of(1))
        self.assertEqual(rows, [[2], [3, 0, 0], [2, 1, 0]])


class TheLeast(unittest.TestCase):
    def test_the_least_step(self):
        self.assertEqual(last(*[work(1, 2)] * 3, person(1), READY, OPEN, next_of(0)), [1, 0, 0])
        self.assertEqual(last(work(1, 2, 1), work(1, 2), person(1), READY, OPEN, next_of(0)), [1, 1, 0])

    def test_the_least_step_before_the_least_person(self):
        steps = [work(1, 2, 1), work(1, 2, 0)]
        self.assertEqual(last(*steps, person(parts(0)), person(parts(1)), READY, OPEN, next_of(0)), [1, 0, 1])

    def test_the_least_person(self):
        people = [person(0), person(1), person(1)]
        self.assertEqual(last(*CHAIN, *people, READY, OPEN, next_of(0)), [3, 0, 1])
        self.assertEqual(last(*CHAIN, *people, READY, OPEN, leave(1), next_of(0)), [3, 0, 2])

    def test_not_the_least_person_who_is_needed_later(self):
        steps = [work(1, places(2), 0), work(places(2), 2, 1)]
        prepared = [*steps, apart(0, 1), person(parts(0, 1)), person(parts(0)), READY, OPEN]
        self.assertEqual(followed(prepared), [[2, 0, 1], [1, 1, 0], [0]])

    def test_not_the_least_person_for_whom_it_is_longer(self):
        # Whoever did the first may not take the short way; it would be one more for the least person.
        steps = [work(1, places(2)), work(places(2), 2, 3), work(places(2), places(3)), work(places(3), 2)]
        prepared = [*steps, apart(0, 1), person(parts(0, 3)), person(parts(0)), READY, OPEN]
        self.assertEqual(followed(prepared), [[2, 0, 1], [1, 1, 0], [0]])
        self.assertEqual(behind(prepared, do(0, 0, 0), next_of(0)), [[2], [2, 2, 0]])

    def test_the_first_step_counts_more_than_all_later_ones(self):
        # By step 1 the way goes on with step 4, by step 2 with step 0.
        steps = [work(places(3), 2), work(1, places(2)), work(1, places(3)), work(places(4), 2), work(places(2), 2),
                 work(1, places(4))]
        self.assertEqual(followed([*steps, person(1), READY, OPEN]), [[2, 1, 0], [1, 4, 0], [0]])

    def test_the_first_person_counts_more_than_the_second_step(self):
        # Done by person 0 it goes on with step 2, by person 1 with step 1.
        steps = [work(1, places(2), 0), work(places(2), 2, 1), work(places(2), 2, 2)]
        prepared = [*steps, apart(0, 1), person(parts(0, 1)), person(parts(0, 2)), READY, OPEN]
        self.assertEqual(followed(prepared), [[2, 0, 0], [1, 2, 1], [0]])

    def test_what_is_met_by_two_ways_at_once(self):
        # Two that go side by side come to the same whichever is first; the least is told.
        steps = [work(places(2), places(4)), work(1, places(2, 3)), work(places(3), places(5)), work(places(4, 5), 2)]
        prepared = [*steps, apart(0, 2), person(1), person(1), READY, OPEN]
        self.assertEqual(followed(prepared), [[4, 1, 0], [3, 0, 0], [2, 2, 1], [1, 3, 0], [0]])


class AgainstAllRows(unittest.TestCase):
    """The row that is come by if next is followed is the least of all that are so short."""

    ORDERS = {
        "one behind another": [(1, 4, 0), (4, 8, 1), (8, 2, 0)],
        "two choices": [(1, 4, 0), (1, 8, 1), (4, 2, 1), (8, 2, 0), (4, 2, 0)],
        "a long and a short way": [(1, 4, 0), (4, 8, 1), (8, 2, 0), (4, 2, 1)],
        "back": [(4, 1, 0), (1, 4, 0), (4, 8, 1), (8, 2, 1)],
    }
    PEOPLE = [(1, 2), (3, 1), (3, 3), (3, 1, 2), (2, 1, 3)]

    def compare(self, steps, pairs, people):
        told = [work(takes, gives, part) for takes, gives, part in steps]
        prepared = [*told, *[apart(a, b) for a, b in pairs], *[person(bits) for bits in people], READY, OPEN]
        plain_steps = [({k for k in range(4) if takes >> k & 1}, {k for k in range(4) if gives >> k & 1}, part)
                       for takes, gives, part in steps]
        plain_people = [{k for k in range(2) if bits >> k & 1} for bits in people]
        by_length = [plain_rows(plain_steps, pairs, plain_people, length) for length in range(4)]
        if last(*prepared) == [-33]:
            self.assertEqual(by_length, [[]] * 4)
            return
        shortest = next(rows for rows in by_length if rows)
        row = followed(prepared)
        self.assertEqual(tuple((step, who) for _, step, who in row[:-1]), min(shortest))

    def test_small_orders(self):
        for name, steps in self.ORDERS.items():
            couples = [(a, b) for b in range(len(steps)) for a in range(b)]
            for pairs in [[], *[[pair] for pair in couples], couples[:2], couples[1:3], couples[-2:]]:
                for people in self.PEOPLE:
                    with self.subTest(name, pairs=pairs, people=people):
                        self.compare(steps, pairs, people)
