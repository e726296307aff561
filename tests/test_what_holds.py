"""What holds, whatever calls come, and in whatever order."""

import random
import unittest

from cabinsgiven.purser import answers
from tests.helper import AGAIN, BACK, BETTER, FREES, LARGEST, MOST, PLAN, START, STATE, SUMS, TAKE, Plain
from tests.helper import beside, cabin, choices, does, flatten, give, leave, look, move, party, pay, see, seen, shut, split
from tests.helper import swap, told, who, would

REFUSALS = {1: (-22, -28), 2: (-22, -28), 3: (-2, -17, -16, -33), 4: (-2,), 5: (-2, -22, -17, -16),
            6: (-2, -6, -16, -33), 7: (-2, -22, -6, -33), 8: (-6,), 9: (-2, -22, -33), 10: (-2,), 11: (), 12: (),
            13: (-2, -17), 14: (-2,), 15: (-2,), 16: (-2, -6), 17: (-2,), 18: (-2,), 19: (), 20: (), 21: (),
            22: (-2,), 23: (-2,), 24: ()}
LENGTHS = {10: 2, 11: 3, 12: 9, 14: 3, 15: 3, 16: 2, 17: 4, 18: 6, 19: 3, 20: 2, 21: 3, 24: 5}


def some_number(source, most):
    """Most often one that may be, now and then one just past it, seldom a very large one."""
    return LARGEST if source.random() < 0.01 else source.randint(0, most + 1)


def some_change(source):
    p, q = some_number(source, 7), some_number(source, 7)
    k = some_number(source, 11)
    rank, flat = some_number(source, 3), some_number(source, 1)
    many = some_number(source, 6)
    return source.choice((cabin(some_number(source, 2), some_number(source, 5), rank, many, flat), party(many, rank, flat),
                          give(p, k), give(p, k), move(p, k), move(p, k), swap(p, q), swap(p, q), shut(k, flat),
                          pay(p, rank), leave(p) if source.random() < 0.3 else give(p, k),
                          TAKE if source.random() < 0.3 else move(p, k)))


def some_question(source):
    p, k = some_number(source, 7), some_number(source, 11)
    return source.choice((does(p, k), MOST, PLAN, would(p), choices(p), beside(k), who(k), look(p), see(k), FREES, BETTER,
                          SUMS, STATE))


def some_call(source):
    luck = source.random()
    if luck < 0.6:
        return some_change(source)
    if luck < 0.66:
        return source.choice((BACK, AGAIN))
    return some_question(source)


def first_calls(source):
    calls = [cabin(source.randint(0, 1), place + 100, source.randint(0, 3), source.randint(2, 6), 1)
             for place in range(source.randint(6, 11))]
    return calls + [party(source.randint(1, 3), source.randint(0, 2), source.randint(0, 1)) for p in range(4)]


def some_calls(seed):
    source = random.Random(seed)
    calls = first_calls(source)
    return calls + [some_call(source) for time in range(source.randint(0, 80))]


def waves(source, starts):
    """1000 calls of all kinds: now many changes, now many taken back and done again, now and then a new start."""
    calls = [START] + first_calls(source)
    while len(calls) < 1000:
        kind = source.choice((some_change, some_change, some_change, some_question, some_call,
                              lambda source: BACK, lambda source: AGAIN))
        calls += [kind(source) for time in range(source.choice((1, 2, 5, 20, 40)))]
        if source.random() < starts:
            calls += [START] + first_calls(source)
    return calls[:1000]


class WhateverComes(unittest.TestCase):
    def test_one_to_a_cabin_and_one_that_does(self):
        housed = 0
        for seed in range(400):
            calls = some_calls(seed)
            found = told(calls + [look(p) for p in range(8)])[len(calls):]
            has = {p: answer[3] - 1 for p, answer in enumerate(found) if answer != [-2] and answer[3] > 0}
            self.assertEqual(len(set(has.values())), len(has))
            asked = told(calls + [does(p, k) for p, k in has.items()] + [who(k) for k in has.values()])[len(calls):]
            self.assertEqual(asked, [[1, 0]] * len(has) + [[p, found[p][0]] for p in has])
            left = told(calls + [leave(p) for p in has])[len(calls):]
            self.assertEqual(left, [[k + 1] for k in has.values()])
            housed += len(has)
        self.assertGreater(housed, 400)

    def test_behind_a_take_nobody_who_waits_could_be_housed(self):
        for seed in range(400):
            calls = some_calls(seed)
            before, plan, take, after = told(calls + [MOST, PLAN, TAKE, MOST])[-4:]
            self.assertEqual(plan[0], before[0])
            self.assertEqual(len([k for k in plan[1:] if k > 0]), plan[0])
            self.assertEqual(take, [plan[0]] if before[1] > 0 else [-6])
            self.assertEqual(after, [0, before[1] - plan[0], before[2] - plan[0]])

    def test_whom_it_hangs_on(self):
        hang = []
        for seed in range(400):
            calls = some_calls(seed)
            for p in range(8):
                would_it, before, left, after = told(calls + [would(p), MOST, leave(p), MOST])[-4:]
                if would_it[0] >= 0:
                    self.assertEqual(left, [0])
                    self.assertEqual(would_it, [before[0] - after[0]])
                    hang += would_it
        self.assertEqual(set(hang), {0, 1})

    def test_no_deck_twice(self):
        for seed in range(400):
            calls = some_calls(seed)
            found = told(calls + [see(k) for k in range(12)])[len(calls):]
            places = [tuple(answer[2:4]) for answer in found if answer != [-2]]
            self.assertEqual(len(set(places)), len(places))

    def test_all_can_be_taken_back_and_done_again(self):
        for seed in range(100):
            source = random.Random(seed)
            start = some_calls(seed)
            made = start + [some_change(source) for time in range(60)]
            done = [call for call, answer in list(zip(made, told(made)))[len(start):] if answer[0] >= 0][:30]
            behind, count = start + done, len(done)
            self.assertEqual(seen(behind + [BACK] * count)[1], seen(start)[1])
            self.assertEqual(seen(behind + [BACK] * count + [AGAIN] * count), seen(behind))

    def test_only_the_refusals_that_are_told_of_a_call(self):
        refused = set()
        for seed in range(400):
            calls = some_calls(seed) if seed < 390 else waves(random.Random(seed), 0.03)
            for call, answer in zip(calls, told(calls)):
                if answer[0] < 0:
                    self.assertIn(answer[0], REFUSALS[call[0]])
                    self.assertEqual(len(answer), 1)
                    refused.add((call[0], answer[0]))
                else:
                    self.assertEqual(len(answer), LENGTHS.get(call[0], 1))
        self.assertEqual(refused, {(call, refusal) for call in REFUSALS for refusal in REFUSALS[call]})

    def test_without_the_refused_calls_all_else_is_answered_the_same(self):
        for seed in range(400):
            calls = some_calls(seed)
            found = told(calls)
            kept = [at for at in range(len(calls)) if found[at][0] >= 0]
            self.assertEqual(told([calls[at] for at in kept]), [found[at] for at in kept])

    def test_without_the_questions_all_else_is_answered_the_same(self):
        for seed in range(400):
            calls = some_calls(seed)
            found = told(calls)
            kept = [at for at in range(len(calls)) if calls[at][0] < 10 or calls[at] in (BACK, AGAIN)]
            self.assertEqual(told([calls[at] for at in kept]), [found[at] for at in kept])

    def test_a_start_between_is_as_if_for_the_first_time(self):
        for seed in range(50):
            first, second = some_calls(seed), some_calls(seed + 1)
            together = split(answers(flatten([START] + first + [START] + second)))
            self.assertEqual(together, [[0]] + told(first) + [[0]] + told(second))


class BesideASecondCount(unittest.TestCase):
    def check(self, calls):
        ship = Plain()
        for call in calls:
            ship.answer(call)
        self.assertEqual(split(answers(flatten(calls))), ship.due)
        return ship

    def test_state_sums_frees_and_better_behind_each_change(self):
        for seed in range(60):
            source = random.Random(seed)
            calls = [START] + first_calls(source)
            while len(calls) + 5 <= 1000:
                call = BACK if source.random() < 0.15 else AGAIN if source.random() < 0.1 else some_change(source)
                calls += [call, STATE, SUMS, FREES, BETTER]
            self.check(calls)

    def test_many_short_lists(self):
        for seed in range(400):
            self.check([START] + some_calls(seed))

    def test_a_thousand_calls_of_all_kinds(self):
        answered, full, numbers = set(), 0, set()
        for seed in range(40):
            calls = waves(random.Random(seed), 0.03 if seed % 2 else 0)
            self.assertEqual(len(calls), 1000)
            due = self.check(calls).due
            answered |= {(call[0], answer[0] < 0) for call, answer in zip(calls, due)}
            full += len([answer for call, answer in zip(calls, due) if call == STATE and 30 in answer[3:]])
            numbers |= {answer[3] for call, answer in zip(calls, due) if call == STATE}
        # Each call was answered, and refused where it can be; the changes to take back or do again were at times all 30.
        self.assertEqual(answered, {(call, False) for call in range(25)}
                         | {(call, True) for call in REFUSALS if REFUSALS[call]})
        self.assertGreater(full, 10)
        self.assertGreater(len(numbers), 20)

    def test_what_is_handed_in_is_as_it_was_and_the_same_is_answered_twice(self):
        for seed in range(5):
            calls = flatten(waves(random.Random(seed), 0.03))
            before = list(calls)
            first = answers(calls)
            self.assertEqual(calls, before)
            self.assertEqual(answers(calls), first)
            self.assertEqual(calls, before)
            self.assertEqual({type(number) for number in first}, {int})
