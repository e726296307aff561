"""What holds, whatever calls come, and in whatever order."""

import random
import unittest

from cabinsgiven.purser import answers
from tests.helper import LARGEST, MOST, PLAN, START, TAKE
from tests.helper import cabin, does, flatten, give, leave, move, party, pay, shut, split, swap, told

REFUSALS = {1: (-22, -28), 2: (-22, -28), 3: (-2, -17, -16, -33), 4: (-2,), 5: (-2, -22, -17, -16),
            6: (-2, -6, -16, -33), 7: (-2, -22, -6, -33), 8: (-6,), 9: (-2, -22, -33), 10: (-2,), 11: (), 12: ()}
LENGTHS = {10: 2, 11: 3, 12: 9}


def some_number(source, most):
    """Most often one that may be, now and then one just past it, seldom a very large one."""
    return LARGEST if source.random() < 0.01 else source.randint(0, most + 1)


def some_call(source):
    p, q = some_number(source, 7), some_number(source, 7)
    k = some_number(source, 11)
    rank, flat = some_number(source, 3), some_number(source, 1)
    many = some_number(source, 6)
    return source.choice((cabin(some_number(source, 2), some_number(source, 5), rank, many, flat), party(many, rank, flat),
                          give(p, k), give(p, k), move(p, k), move(p, k), swap(p, q), swap(p, q), shut(k, flat),
                          pay(p, rank), leave(p) if source.random() < 0.3 else give(p, k),
                          TAKE if source.random() < 0.3 else PLAN, MOST, does(p, k)))


def some_calls(seed):
    source = random.Random(seed)
    calls = [cabin(0, place + 100, source.randint(0, 3), source.randint(2, 6), 1) for place in range(source.randint(6, 11))]
    calls += [party(source.randint(1, 3), source.randint(0, 2), source.randint(0, 1)) for p in range(4)]
    return calls + [some_call(source) for time in range(source.randint(0, 80))]


class WhateverComes(unittest.TestCase):
    def test_one_to_a_cabin_and_one_that_does(self):
        housed = 0
        for seed in range(400):
            calls = some_calls(seed)
            leaving = told(calls + [leave(p) for p in range(8)])[len(calls):]
            has = {p: answer[0] - 1 for p, answer in enumerate(leaving) if answer[0] > 0}
            self.assertEqual(len(set(has.values())), len(has))
            asked = told(calls + [does(p, k) for p, k in has.items()])[len(calls):]
            self.assertEqual(asked, [[1, 0]] * len(has))
            housed += len(has)
        self.assertGreater(housed, 400)

    def test_behind_a_take_nobody_who_waits_could_be_housed(self):
        for seed in range(400):
            calls = some_calls(seed)
            before, plan, take, after = told(calls + [MOST, PLAN, TAKE, MOST])[-4:]
            self.assertEqual(plan[0], before[0])
            self.assertEqual(len([k for k in plan[1:] if k > 0]), plan[0])
            self.assertEqual(take, [plan[0]] if before[1] > 0 else [-6])
            self.assertEqual(after, [0, before[1] - plan[0], before[2] - plan[0]])

    def test_no_deck_twice(self):
        for seed in range(400):
            calls = some_calls(seed)
            taken = [call[1:3] for call, answer in zip(calls, told(calls)) if call[0] == 1 and answer[0] >= 0]
            self.assertEqual(len({tuple(where) for where in taken}), len(taken))

    def test_only_the_refusals_that_are_told_of_a_call(self):
        seen = set()
        for seed in range(400):
            calls = some_calls(seed)
            for call, answer in zip(calls, told(calls)):
                if answer[0] < 0:
                    self.assertIn(answer[0], REFUSALS[call[0]])
                    self.assertEqual(len(answer), 1)
                    seen.add((call[0], answer[0]))
                else:
                    self.assertEqual(len(answer), LENGTHS.get(call[0], 1))
        self.assertEqual(seen, {(call, refusal) for call in REFUSALS for refusal in REFUSALS[call]})

    def test_without_the_refused_calls_all_else_is_answered_the_same(self):
        for seed in range(400):
            calls = some_calls(seed)
            found = told(calls)
            kept = [at for at in range(len(calls)) if found[at][0] >= 0]
            self.assertEqual(told([calls[at] for at in kept]), [found[at] for at in kept])

    def test_a_start_between_is_as_if_for_the_first_time(self):
        for seed in range(50):
            first, second = some_calls(seed), some_calls(seed + 1)
            together = split(answers(flatten([START] + first + [START] + second)))
            self.assertEqual(together, [[0]] + told(first) + [[0]] + told(second))
