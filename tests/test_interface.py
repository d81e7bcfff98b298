"""The interface: how calls are written, what is given back, and what is left alone."""

import unittest

from endingwork.order import answers
from helper import BEGIN, LARGEST, OPEN, READY, SHORTEST, apart, do, flat, leave, next_of, person, split, state, work


def refuse(*handed):
    raise AssertionError("the list that was handed in is changed")


class Unchanging(list):
    """A list that tells when somebody sets about changing it."""

    append = clear = extend = insert = pop = remove = reverse = sort = refuse
    __setitem__ = __delitem__ = __iadd__ = __imul__ = refuse


MIXED = [
    BEGIN, work(1, 4, 2), work(4, 8), READY, work(8, 2, 15), apart(0, 2), apart(0, 3), person(65535),
    work(16, 2), READY, BEGIN, *SHORTEST, person(65536), READY, work(1, 2), READY, person(0),
    OPEN, person(1), OPEN, state(0), next_of(0), leave(1), do(0, 0, 0), do(0, 0, 1), state(0), next_of(0), state(1),
    leave(1), leave(1), OPEN, do(0, 0, 1), next_of(1), BEGIN, work(1, 4), work(4, 2), apart(0, 1), person(1),
    person(1), READY, OPEN, next_of(0), do(0, 0, 1), state(0), next_of(0), do(0, 1, 1),
]
MIXED_TOLD = [
    1, 0, 1, 0, 1, 1, 2, 2, 1, 1, 2, 1, 0, 1, -22, 1, 0,
    1, 3, 2, 4, 3, 1, 0, 1, 0, 1, -22, 1, 0, 1, -16, 1, -16, 1, 0,
    1, -33, 1, 1, 1, 0, 2, 0, 1, 3, 1, 0, 1, 1, -33, 1, -1, 1, 0, 2, 1, 2, 1, 0, 1, -2,
    1, 0, 1, -2, 1, -33, 1, -11, 1, -2, 1, 0, 1, 0, 1, 1, 1, 0, 1, 0,
    1, 1, 1, 0, 1, 0, 3, 2, 0, 0, 1, 1, 2, 0, 4, 3, 1, 1, 0, 1, -17,
]


class Interface(unittest.TestCase):
    def test_the_count_ahead_of_each_answer(self):
        self.assertEqual(answers(flat(MIXED)), MIXED_TOLD)

    def test_what_is_handed_in_is_not_changed(self):
        calls = Unchanging(flat(MIXED))
        self.assertEqual(answers(calls), MIXED_TOLD)
        self.assertEqual(list(calls), flat(MIXED))

    def test_a_second_time_is_as_the_first(self):
        calls = flat(MIXED)
        first = answers(calls)
        first.clear()
        self.assertEqual(answers(calls), MIXED_TOLD)
        self.assertEqual(answers(flat([BEGIN, READY])), [1, 0, 2, 2, 1])
        self.assertEqual(answers(flat([BEGIN, OPEN, state(0), leave(0)])), [1, 0, 1, -16, 1, -2, 1, -2])
        self.assertEqual(answers(calls), MIXED_TOLD)

    def test_a_taken_order_is_not_kept_for_the_next_time(self):
        calls = flat([BEGIN, *SHORTEST, person(1), READY])
        for _ in range(3):
            self.assertEqual(answers(calls), [1, 0] * 4)

    def test_a_new_list_of_whole_numbers(self):
        calls = flat(MIXED)
        told = answers(calls)
        self.assertIs(type(told), list)
        self.assertIsNot(told, calls)
        self.assertEqual({type(number) for number in told}, {int})

    def test_the_largest_numbers(self):
        calls = [BEGIN, work(LARGEST, LARGEST, LARGEST), work(1, 2, LARGEST), work(1, LARGEST), work(LARGEST, 2),
                 apart(LARGEST, LARGEST), apart(LARGEST, LARGEST - 1), person(LARGEST), work(1, 2),
                 apart(0, LARGEST), apart(LARGEST, 0), READY, work(LARGEST, LARGEST, LARGEST),
                 apart(LARGEST, LARGEST), person(LARGEST)]
        self.assertEqual(split(answers(flat(calls))), [
            [0], [-22], [-22], [-22], [-22], [-22], [-22], [-22], [0], [-22], [-22], [0], [-16], [-16], [-22]])

    def test_the_largest_numbers_of_cases_steps_and_people(self):
        calls = [do(LARGEST, LARGEST, LARGEST), do(0, LARGEST, 0), do(0, 0, LARGEST), do(LARGEST, 0, 0),
                 next_of(LARGEST), state(LARGEST), leave(LARGEST)]
        prepared = [BEGIN, *SHORTEST, person(1), READY, OPEN]
        self.assertEqual(answers(flat([*prepared, *calls])), [1, 0] * 5 + [1, -2] * 7)
        self.assertEqual(answers(flat([BEGIN, *calls])), [1, 0] + [1, -2] * 7)

    def test_400_calls(self):
        calls = [BEGIN] + [work(1, 2)] * 20 + [apart(0, 1)] * 40 + [person(1)] * 10
        calls += [READY] * (400 - len(calls))
        told = [[0]] + [[k] for k in range(16)] + [[-28]] * 4 + [[0]] * 32 + [[-28]] * 8
        told += [[k] for k in range(8)] + [[-28]] * 2 + [[0]]
        told += [[-16]] * (400 - len(told))
        self.assertEqual(split(answers(flat(calls))), told)

    def test_400_calls_that_look_at_1024_marks_each(self):
        calls = [BEGIN] + [work(1, 1 | 4 << k) for k in range(10)]
        calls += [READY] * (400 - len(calls))
        self.assertEqual(split(answers(flat(calls)))[11:], [[1, 0]] * 389)

    def test_400_calls_with_all_ten_among_them(self):
        # Twenty times the same from begin on: one case is brought to its end, another is left on its way.
        prepared = [BEGIN, work(1, 4), work(4, 2), apart(0, 1), person(1), person(1), READY]
        prepared_told = [[0], [0], [1], [0], [0], [1], [0]]
        case = [OPEN, next_of(0), do(0, 0, 0), do(0, 1, 0), leave(1), state(0), next_of(0), do(0, 1, 1), state(0),
                next_of(0), OPEN, leave(0), do(1, 0, 1)]
        case_told = [[0], [2, 0, 0], [1], [-17], [-33], [0, 4], [1, 1, 1], [0], [1, 2], [0], [1], [-33], [1]]
        self.assertEqual(len(prepared + case), 20)
        calls, told = (prepared + case) * 20, (prepared_told + case_told) * 20
        self.assertEqual({call[0] for call in calls}, set(range(10)))
        self.assertEqual(split(answers(flat(calls))), told)
        self.assertEqual(split(answers(flat(calls))), told)

    def test_400_calls_that_look_at_1024_cases_each(self):
        # Ten rounds that are apart from the way to the end, which nobody goes until the last has come.
        order = [BEGIN, work(1, 2, 1), *[work(1, 1)] * 10, *[apart(0, k) for k in range(1, 11)], person(1), READY]
        calls = order + [OPEN] * (397 - len(order)) + [person(2), OPEN, next_of(0)]
        self.assertEqual(len(calls), 400)
        rows = split(answers(flat(calls)))
        self.assertEqual(rows[len(order):], [[-33]] * (397 - len(order)) + [[1], [0], [1, 0, 1]])
