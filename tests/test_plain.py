"""All calls against a plain reading of the document, on many lines of calls; and what holds (a to d)."""

import unittest
from random import Random
from unittest.mock import patch

from endingwork import far
from endingwork.order import answers
from helper import BEGIN, LARGEST, OPEN, READY, apart, do, flat, leave, next_of, person, split, state, work
from test_ready import places_of, plain_ready

END = frozenset([1])


class Plain:
    """The document's words in sets: a case is its marks and all that anybody did in it."""

    def __init__(self, bound):
        self.bound = bound
        self.begin()

    def begin(self):
        self.steps, self.pairs, self.people, self.there, self.cases = [], [], [], [], []
        self.taken = False
        return [0]

    def may(self, case, step, who, there):
        marks, did = case
        takes, gives, part = self.steps[step]
        return (self.fits(marks, step) and who in there and part in self.people[who]
                and not self.did_one_apart(did, step, who))

    def fits(self, marks, step):
        takes, gives, _ = self.steps[step]
        return takes <= marks and not gives & (marks - takes)

    def did_one_apart(self, did, step, who):
        return any({step, other} in self.pairs for other, doer in did if doer == who)

    def behind(self, case, step, who):
        marks, did = case
        takes, gives, _ = self.steps[step]
        return (marks - takes) | gives, did | {(step, who)}

    def kept(self, case):
        """What makes cases one: marks, and who did which of the steps that are told apart from any."""
        marks, did = case
        return marks, frozenset((step, who) for step, who in did if any(step in pair for pair in self.pairs))

    def one_more(self, cases, there):
        return {self.kept(self.behind(case, step, who)) for case in cases for step in range(len(self.steps))
                for who in there if self.may(case, step, who, there)}

    def how_far(self, case, there, bound=None):
        together = newest = {self.kept(case)}
        count = 0
        while newest:
            if len(together) > (bound or self.bound):
                return -75
            if any(marks == END for marks, _ in newest):
                return count
            newest = self.one_more(newest, there) - together
            together = together | newest
            count += 1
        return -33

    def all_far(self, there):
        return [self.how_far(case, there) for case in self.cases]

    def work(self, takes, gives, part):
        self.steps.append((places_of(takes), places_of(gives), part))
        return [len(self.steps) - 1]

    def apart(self, a, b):
        self.pairs.append({a, b})
        return [0]

    def person(self, bits):
        if bits > 65535:
            return [-22]
        if len(self.people) == 8:
            return [-28]
        self.people.append(places_of(bits))
        if -75 in self.all_far([*self.there, len(self.people) - 1]):
            self.people.pop()
            return [-75]
        self.there.append(len(self.people) - 1)
        return [len(self.people) - 1]

    def ready(self):
        told = [-16] if self.taken else plain_ready([(takes, gives) for takes, gives, _ in self.steps])
        self.taken = self.taken or told == [0]
        return told

    def open(self):
        if not self.taken or len(self.cases) == 16:
            return [-28 if self.taken else -16]
        new = (frozenset([0]), frozenset())
        if self.how_far(new, self.there) < 0:
            return [self.how_far(new, self.there)]
        self.cases.append(new)
        return [len(self.cases) - 1]

    def do(self, k, step, who):
        if not (k < len(self.cases) and step < len(self.steps) and who < len(self.people)):
            return [-2]
        marks, did = self.cases[k]
        if not self.fits(marks, step):
            return [-11]
        if who not in self.there or self.steps[step][2] not in self.people[who]:
            return [-1]
        if self.did_one_apart(did, step, who):
            return [-17]
        later = self.behind(self.cases[k], step, who)
        count = self.how_far(later, self.there)
        if count >= 0:
            self.cases[k] = later
        return [count]

    def next(self, k):
        if k >= len(self.cases):
            return [-2]
        count = self.how_far(self.cases[k], self.there)
        if count <= 0:
            return [count]
        begins = [(step, who) for step in range(len(self.steps)) for who in self.there
                  if self.may(self.cases[k], step, who, self.there)
                  and self.how_far(self.behind(self.cases[k], step, who), self.there, 100000) == count - 1]
        return [count, *min(begins)]

    def state(self, k):
        if k >= len(self.cases):
            return [-2]
        marks = self.cases[k][0]
        return [int(marks == END), sum(1 << place for place in marks)]

    def leave(self, who):
        if who not in self.there:
            return [-2]
        there = [other for other in self.there if other != who]
        fars = self.all_far(there)
        if -33 in fars or -75 in fars:
            return [-33 if -33 in fars else -75]
        self.there = there
        return [0]

    def told(self, call):
        names = ["begin", "work", "apart", "person", "ready", "open", "do", "next", "state", "leave"]
        return getattr(self, names[call[0]])(*call[1:])


def several_for_one(random, takes, gives, free):
    """Steps that do together what one did: an order that was sound stays so."""
    kind = random.choice(["behind", "beside", "choice", "round", "back", "short", "short"])
    if kind == "beside" and len(free) >= 4:
        a, b, c, d = [free.pop() for _ in range(4)]
        return [(takes, a | b), (a, c), (b, d), (c | d, gives)]
    if kind == "choice":
        return [(takes, gives), (takes, gives)]
    if kind == "round" or len(free) == 0:
        return [(takes, gives), (takes, takes)]
    middle = free.pop()
    there = [(takes, middle), (middle, gives)]
    return there + {"back": [(middle, takes)], "short": [(takes, gives)]}.get(kind, [])


def a_sound_order(random, many):
    """Steps as (takes, gives), grown from one by so many times putting several in the place of one."""
    steps, free = [(1, 2)], [1 << k for k in range(2, 16)]
    for _ in range(many):
        if len(steps) <= 13:
            takes, gives = steps.pop(random.randrange(len(steps)))
            steps += several_for_one(random, takes, gives, free)
    random.shuffle(steps)
    return steps


def told_order(random, many, kinds, couples):
    """An order, told: its steps with so many kinds of part, and so many couples that are apart."""
    steps = a_sound_order(random, many)
    calls = [work(takes, gives, random.randrange(kinds)) for takes, gives in steps]
    if len(steps) > 1:
        calls += [apart(*random.sample(range(len(steps)), 2)) for _ in range(couples)]
    return calls


def a_call(random, plain, kinds):
    """One call of those that may come behind ready; sometimes with numbers that can't be."""
    def number(below):
        return random.choice([LARGEST, below]) if random.random() < 0.04 else random.randrange(max(1, below))

    k = number(len(plain.cases))
    fitting = list(range(len(plain.steps)))
    if k < len(plain.cases) and random.random() < 0.8:
        fitting = [step for step in fitting if plain.fits(plain.cases[k][0], step)] or fitting
    step = random.choice([*fitting * 5, number(len(plain.steps))])
    return random.choices(
        [do(k, step, number(len(plain.people))), OPEN, next_of(k), state(k), leave(number(len(plain.people))),
         person(random.randrange(1 << kinds)), READY],
        weights=[10, 2, 3, 1, 4, 1, 0.1])[0]


def a_line(seed, bound, length=30):
    """A line of calls, and what they answer by the plain words: an order, some people, then whatever may come."""
    random = Random(seed)
    kinds = random.randrange(1, 5)
    full = (1 << kinds) - 1
    prepared = told_order(random, random.randrange(7), kinds, random.randrange(5))
    prepared += [person(random.choice([full, random.randrange(full + 1)])) for _ in range(random.randrange(1, 6))]
    plain = Plain(bound)
    calls = [BEGIN, *prepared, READY, OPEN, OPEN]
    rows = [plain.told(call) for call in calls]
    for _ in range(length):
        calls.append(a_call(random, plain, kinds))
        rows.append(plain.told(calls[-1]))
    return calls, rows


class AgainstThePlainWords(unittest.TestCase):
    def refusals_met(self, seeds, bound):
        """Compares these lines; each call's number is given back with each refusal that it answered."""
        met = {}
        for seed in seeds:
            calls, rows = a_line(seed, bound)
            with patch.object(far, "MOST_TOGETHER", bound):
                told = split(answers(flat(calls)))
            self.assertEqual(told, rows, calls)
            met.update({(call[0], row[0]): True for call, row in zip(calls, rows) if row[0] < 0})
        return met

    def test_many_lines(self):
        met = self.refusals_met(range(400), 1024)
        for refusal in [(5, -75), (5, -33), (6, -2), (6, -11), (6, -1), (6, -17), (6, -33), (7, -2), (8, -2), (9, -2),
                        (9, -33)]:
            self.assertIn(refusal, met)
        self.assertEqual([refusal for call, refusal in met if call == 7], [-2])

    def test_many_lines_with_a_small_bound(self):
        # With fewer that may come together its edge is met much more often.
        met = {}
        for bound in range(6, 31, 3):
            met.update(self.refusals_met(range(1000 * bound, 1000 * bound + 400), bound))
        for call in (3, 5, 6, 9):
            self.assertIn((call, -75), met)
        self.assertEqual([refusal for call, refusal in met if call == 7], [-2])


class WhatHolds(unittest.TestCase):
    def rows(self, *calls):
        return split(answers(flat(calls)))

    def test_no_case_is_ever_stuck(self):
        # (a) and (d): each case that there is at a line's end is brought to its end as next tells.
        for seed in range(2000, 2080):
            line, _ = a_line(seed, 1024)
            opened = sum(row[0] >= 0 for call, row in zip(line, self.rows(*line)) if call == OPEN)
            for k in range(opened):
                calls = list(line)
                told = self.rows(*calls, next_of(k))[-1]
                while told != [0]:
                    self.assertEqual(len(told), 3, (calls, told))
                    calls.append(do(k, told[1], told[2]))
                    *_, done, later = self.rows(*calls, next_of(k))
                    self.assertEqual([done[0], later[0]], [told[0] - 1] * 2, calls)
                    told = later
                self.assertEqual(self.rows(*calls, state(k))[-1], [1, 2])

    def test_nobody_does_two_that_are_apart_and_who_left_does_nothing(self):
        # (c), by what was answered alone.
        for seed in range(3000, 3200):
            line, _ = a_line(seed, 1024)
            pairs = [set(call[1:]) for call in line if call[0] == 2]
            did, gone = {}, []
            for call, row in zip(line, self.rows(*line)):
                if call[0] == 9 and row == [0]:
                    gone.append(call[1])
                if call[0] == 6 and row[0] >= 0:
                    k, step, who = call[1:]
                    self.assertNotIn(who, gone)
                    for other in did.setdefault((k, who), []):
                        self.assertNotIn({step, other}, pairs)
                    did[k, who].append(step)

    def test_what_is_refused_changes_nothing(self):
        # A line without its refused calls answers the same but for these.
        for bound in (1024, 12):
            for seed in range(4000, 4150):
                line, _ = a_line(seed, bound)
                with patch.object(far, "MOST_TOGETHER", bound):
                    taken = [(call, row) for call, row in zip(line, self.rows(*line)) if row[0] >= 0]
                    self.assertEqual(self.rows(*[call for call, _ in taken]), [row for _, row in taken])
