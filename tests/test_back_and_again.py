"""Point 8, and the changes of point 1: cg_back, cg_again, cg_state."""

import unittest

from tests.helper import AGAIN, BACK, BETTER, FREES, LARGEST, MOST, PLAN, START, STATE, SUMS, TAKE
from tests.helper import asks, beside, cabin, check_refused, choices, does, give, last, leave, look, move, party, pay, see
from tests.helper import seen, shut, swap, told, who, would

# Parties 0 and 1 have the cabins 0 and 1, party 2 waits; cabin 3 is out of order.
SHIP = [cabin(0, 0, 2, 4, 1), cabin(0, 1, 1, 2, 0), cabin(3, 499, 3, 6, 1), cabin(3, 498), party(2, 1, 0), party(1, 0, 0),
        party(4, 2, 1), give(0, 0), give(1, 1), shut(3, 1)]

CHANGES = {
    "cabin": cabin(3, 500, 1, 5, 0), "party": party(6, 3, 1), "give": give(2, 2), "leave with a cabin": leave(0),
    "leave without one": leave(2), "shut": shut(2, 1), "open": shut(3, 0), "move": move(0, 2), "swap": swap(0, 1),
    "take": TAKE, "pay for more": pay(0, 2), "pay for less": pay(2, 0), "pay": pay(1, 1),
}

REFUSED = [cabin(0, 0), cabin(0, 7, 4), party(0), party(7), give(0, 2), give(2, 0), give(2, 3), give(9, 9), leave(3),
           leave(LARGEST), shut(0, 1), shut(0, 0), shut(3, 1), shut(4, 0), shut(0, 2), move(2, 2), move(0, 1), move(0, 3),
           swap(0, 0), swap(0, 2), swap(0, 5), pay(0, 4), pay(0, 1), pay(1, 2), pay(3, 0)]

QUESTIONS = [does(0, 0), MOST, PLAN, would(2), would(0), choices(0), beside(0), who(0), who(2), look(0), look(9), see(0),
             see(9), FREES, BETTER, SUMS, STATE]


def changes(count):
    """So many changes: a party comes, and pays for the classes 1, 2, 3, 0, 1 and so on in turn."""
    return ([party()] + [pay(0, time % 4) for time in range(1, count)])[:count]


def look_behind(count):
    """What is told of that party behind so many of these changes."""
    return [-2] if count == 0 else [1, (count - 1) % 4, 0, 0]


class EachKind(unittest.TestCase):
    def test_behind_back_as_ahead_of_it_behind_again_as_behind_it(self):
        made = len(SHIP)
        for name, change in CHANGES.items():
            with self.subTest(name=name):
                before, after = seen(SHIP), seen(SHIP + [change])
                self.assertEqual([before[0], after[0]], [[made, 0], [made + 1, 0]])
                self.assertNotEqual(before[1], after[1])
                self.assertEqual(seen(SHIP + [change, BACK]), ([made, 1], before[1]))
                self.assertEqual(seen(SHIP + [change, BACK, AGAIN]), after)
                self.assertEqual(seen(SHIP + [change, BACK, AGAIN, BACK]), ([made, 1], before[1]))
                self.assertEqual(told(SHIP + [change, BACK, AGAIN, BACK, AGAIN])[-4:], [[made], [0], [made], [0]])

    def test_a_call_behind_back_is_answered_as_the_first_time(self):
        for name, change in CHANGES.items():
            with self.subTest(name=name):
                first, back, second = told(SHIP + [change, BACK, change])[-3:]
                self.assertGreaterEqual(first[0], 0)
                self.assertEqual(second, first)

    def test_one_within_one_list(self):
        for name, change in CHANGES.items():
            calls = SHIP + asks() + [change] + asks() + [BACK] + asks() + [AGAIN] + asks()
            self.assertLess(len(calls), 1000)
            found = told(calls)[len(SHIP):]
            length = len(asks()) + 1
            parts = [found[at * length + 1:(at + 1) * length - 1] for at in range(4)]
            with self.subTest(name=name):
                self.assertEqual(parts[2:], parts[:2])

    def test_a_take_that_houses_nobody_is_a_change(self):
        calls = [party(), STATE, TAKE, STATE, BACK, STATE, AGAIN, STATE]
        self.assertEqual(told(calls)[1:], [[0, 1, 0, 1, 0], [0], [0, 1, 0, 2, 0], [1], [0, 1, 0, 1, 1],
                                           [0], [0, 1, 0, 2, 0]])

    def test_all_kinds_one_behind_another(self):
        done = SHIP + [swap(0, 1), pay(0, 0), cabin(3, 500), move(1, 2), TAKE, leave(1), shut(2, 1), party(1, 3), shut(3, 0),
                       give(3, 2), shut(2, 0), give(3, 2), leave(3), pay(2, 0)]
        done = [call for call, answer in zip(done, told(done)) if answer[0] >= 0]
        self.assertGreater(len(done), 20)
        views = [seen(done[:count])[1] for count in range(len(done) + 1)]
        for backs in range(len(done) + 1):
            calls = done + [BACK] * backs
            self.assertEqual(seen(calls), ([len(done) - backs, backs], views[len(done) - backs]))
            for agains in (backs // 2, backs):
                left = backs - agains
                self.assertEqual(seen(calls + [AGAIN] * agains), ([len(done) - left, left], views[len(done) - left]))


class OneByOne(unittest.TestCase):
    def test_a_party_that_left_has_its_cabin_again(self):
        calls = [cabin(0, 0), cabin(0, 1), party(3, 0, 1), give(0, 1), leave(0), look(0), who(1), STATE,
                 BACK, look(0), who(1), STATE, AGAIN, look(0), who(1), STATE]
        self.assertEqual(told(calls)[4:], [[2], [-2], [-6], [2, 1, 1, 5, 0], [4], [3, 0, 1, 2], [0, 3], [2, 1, 0, 4, 1],
                                           [0], [-2], [-6], [2, 1, 1, 5, 0]])

    def test_a_party_that_came_is_no_longer_there_and_is_not_counted(self):
        calls = [party(1), party(2), BACK, look(1), STATE, FREES, party(3), look(1), STATE]
        self.assertEqual(told(calls)[2:], [[1], [-2], [0, 1, 0, 1, 1], [0, 0, 1], [1], [3, 0, 0, 0], [0, 2, 0, 2, 0]])

    def test_a_cabin_that_came_is_no_longer_there_and_is_not_counted(self):
        calls = [cabin(0, 0), cabin(0, 1), BACK, see(1), beside(0), STATE, FREES, cabin(0, 1, 2, 3, 0), see(1)]
        self.assertEqual(told(calls)[2:], [[1], [-2], [0, 0, 0], [1, 0, 0, 1, 1], [1, 1, 0], [1], [2, 3, 0, 1, 0, 0]])

    def test_the_thirteenth_cabin_and_the_ninth_party(self):
        twelve = [cabin(0, k) for k in range(12)]
        self.assertEqual(told(twelve + [cabin(1, 0), BACK, cabin(1, 0), cabin(1, 1)])[12:], [[-28], [11], [11], [-28]])
        eight = [party() for p in range(8)]
        self.assertEqual(told(eight + [party(), BACK, party(2), party(), look(7)])[8:],
                         [[-28], [7], [7], [-28], [2, 0, 0, 0]])

    def test_its_place_can_be_had_by_another(self):
        calls = [cabin(0, 0), BACK, cabin(0, 0, 3), see(0), AGAIN, BACK, AGAIN, see(0)]
        self.assertEqual(told(calls), [[0], [0], [0], [3, 6, 0, 0, 1, 0], [-2], [0], [0], [3, 6, 0, 0, 1, 0]])

    def test_give_move_swap_shut_pay(self):
        calls = [cabin(0, 0, 2), cabin(0, 1, 2), party(1, 1), party(2, 2), give(0, 0), give(1, 1), swap(0, 1), leave(1),
                 move(0, 0), shut(1, 1), pay(0, 2)]
        found = told(calls + [BACK, look(0), BACK, see(1), BACK, look(0), BACK, look(1), BACK, look(0), look(1),
                              BACK, look(1), BACK, look(0)])
        self.assertEqual(found[11:], [[10], [1, 1, 0, 1], [9], [2, 6, 0, 1, 1, 0], [8], [1, 1, 0, 2], [7], [2, 2, 0, 1],
                                      [6], [1, 1, 0, 1], [2, 2, 0, 2], [5], [2, 2, 0, 0], [4], [1, 1, 0, 0]])

    def test_a_take_is_one_change_however_many_got_a_cabin(self):
        calls = [cabin(0, 0), cabin(0, 1), cabin(0, 2), party(), party(), TAKE, FREES, BACK, FREES, AGAIN, FREES]
        self.assertEqual(told(calls)[5:], [[2], [1, 4, 0], [5], [3, 7, 3], [0], [1, 4, 0]])

    def test_what_is_done_again_is_what_was_taken_back_last(self):
        calls = [party(), pay(0, 1), pay(0, 2), pay(0, 3), BACK, BACK, AGAIN, look(0), BACK, BACK, look(0),
                 AGAIN, AGAIN, AGAIN, look(0)]
        self.assertEqual(told(calls)[4:], [[3], [2], [1], [1, 2, 0, 0], [2], [1], [1, 0, 0, 0],
                                           [2], [1], [0], [1, 3, 0, 0]])

    def test_what_comes_behind_does_not_touch_what_is_kept(self):
        calls = [cabin(0, 0), party(), give(0, 0), BACK, AGAIN, leave(0), BACK, look(0), pay(0, 0), shut(0, 1),
                 BACK, look(0)]
        self.assertEqual(told(calls)[3:], [[2], [0], [1], [3], [1, 0, 0, 1], [-22], [-16], [2], [1, 0, 0, 0]])


class NoneLeft(unittest.TestCase):
    def test_on_a_new_ship(self):
        self.assertEqual(told([BACK, AGAIN, STATE]), [[-2], [-2], [0] * 5])

    def test_refused_all_is_as_it_was(self):
        check_refused(self, [], BACK, -2)
        check_refused(self, [party(), BACK], BACK, -2)
        check_refused(self, SHIP + [BACK] * len(SHIP), BACK, -2)
        for calls in ([], SHIP, SHIP + [BACK, AGAIN], SHIP + [BACK, party()]):
            self.assertEqual(last(calls + [AGAIN]), [-2])
            self.assertEqual(seen(calls + [AGAIN]), seen(calls))
            self.assertEqual(seen(calls + [AGAIN, BACK]), seen(calls + [BACK]))

    def test_again_and_again(self):
        self.assertEqual(told([party(), BACK, BACK, BACK, AGAIN, AGAIN, AGAIN, STATE])[1:],
                         [[0], [-2], [-2], [0], [-2], [-2], [0, 1, 0, 1, 0]])

    def test_a_start_leaves_no_changes(self):
        for calls in (SHIP, SHIP + [BACK] * 3, SHIP + [BACK] * len(SHIP), SHIP + [BACK, AGAIN], changes(50)):
            found = told(calls + [START, STATE, BACK, AGAIN, STATE, party(), STATE, BACK, STATE, AGAIN])[len(calls):]
            self.assertEqual(found, [[0], [0] * 5, [-2], [-2], [0] * 5, [0], [0, 1, 0, 1, 0], [0], [0, 0, 0, 0, 1], [0]])

    def test_a_start_cannot_be_taken_back(self):
        self.assertEqual(seen(SHIP + [START, BACK, AGAIN]), seen([]))


class WhatIsNoChange(unittest.TestCase):
    def test_a_refused_call(self):
        for call in REFUSED:
            with self.subTest(call=call):
                self.assertLess(last(SHIP + [call])[0], 0)
                for ahead in (SHIP, SHIP + [leave(0), BACK]):
                    self.assertEqual(seen(ahead + [call]), seen(ahead))
                    self.assertEqual(told(ahead + [call, AGAIN])[-1], told(ahead + [AGAIN])[-1])
                    self.assertEqual(seen(ahead + [call, AGAIN]), seen(ahead + [AGAIN]))
                    self.assertEqual(seen(ahead + [call, BACK]), seen(ahead + [BACK]))

    def test_every_kind_of_change_is_among_those_that_are_refused(self):
        self.assertEqual({call[0] for call in REFUSED} | {8}, set(range(1, 10)))
        calls = [cabin(0, 0), party(), give(0, 0), pay(0, 0), leave(0), BACK, TAKE, STATE, AGAIN, TAKE, STATE]
        self.assertEqual(told(calls)[5:], [[3], [-6], [1, 1, 0, 3, 1], [0], [-6], [1, 1, 1, 4, 0]])

    def test_a_question(self):
        for call in QUESTIONS:
            with self.subTest(call=call):
                for ahead in (SHIP, SHIP + [leave(0), BACK]):
                    self.assertEqual(seen(ahead + [call]), seen(ahead))
                    self.assertEqual(seen(ahead + [call, AGAIN]), seen(ahead + [AGAIN]))
                    self.assertEqual(seen(ahead + [call, BACK]), seen(ahead + [BACK]))

    def test_back_and_again_themselves(self):
        calls = changes(3) + [BACK, STATE, BACK, STATE, AGAIN, STATE, BACK, STATE, BACK, STATE, AGAIN, STATE]
        self.assertEqual(told(calls)[3:], [[2], [0, 1, 0, 2, 1], [1], [0, 1, 0, 1, 2], [1], [0, 1, 0, 2, 1],
                                           [1], [0, 1, 0, 1, 2], [0], [0, 0, 0, 0, 3], [2], [0, 1, 0, 1, 2]])


class AnotherChange(unittest.TestCase):
    def test_none_is_left_to_be_done_again(self):
        for name, change in CHANGES.items():
            calls = SHIP + [cabin(9, 9), party(), BACK, BACK]
            with self.subTest(name=name):
                found = told(calls + [change, AGAIN, STATE, BACK, AGAIN])[len(calls):]
                self.assertEqual(found[1], [-2])
                self.assertEqual(found[2][3:], [len(SHIP) + 1, 0])
                self.assertEqual(found[3:], [[len(SHIP)], [0]])
                self.assertEqual(seen(calls + [change]), seen(SHIP + [change]))
                self.assertEqual(seen(calls + [change, BACK]), seen(SHIP + [change, BACK]))

    def test_the_same_change_is_another_change_too(self):
        calls = changes(3) + [BACK, BACK, pay(0, 1), AGAIN, STATE]
        self.assertEqual(told(calls)[-3:], [[0], [-2], [0, 1, 0, 2, 0]])

    def test_what_was_not_taken_back_can_still_be(self):
        calls = [party(), pay(0, 1), pay(0, 2), BACK, pay(0, 3), BACK, look(0), BACK, look(0), BACK, look(0), BACK]
        self.assertEqual(told(calls)[3:], [[2], [1], [2], [1, 1, 0, 0], [1], [1, 0, 0, 0], [0], [-2], [-2]])


class TheLastThirty(unittest.TestCase):
    def test_how_many_can_be_taken_back_and_which(self):
        for count in (0, 1, 2, 28, 29, 30, 31, 32, 33, 59, 60, 61, 62, 200, 800):
            kept = min(count, 30)
            calls = changes(count) + [STATE, look(0)] + [BACK, look(0)] * kept + [BACK, STATE, look(0)]
            due = [[0, min(count, 1), 0, kept, 0], look_behind(count)]
            for left in reversed(range(kept)):
                due += [[left], look_behind(count - kept + left)]
            due += [[-2], [0, min(count - kept, 1), 0, 0, kept], look_behind(count - kept)]
            with self.subTest(count=count):
                self.assertLessEqual(len(calls), 999)
                self.assertEqual(told(calls)[count:], due)

    def test_all_of_them_are_done_again(self):
        for count in (1, 2, 29, 30, 31, 32, 33, 60, 61, 200, 800):
            kept = min(count, 30)
            calls = changes(count) + [BACK] * kept + [AGAIN, look(0)] * kept + [AGAIN, STATE, look(0)]
            due = []
            for left in reversed(range(kept)):
                due += [[left], look_behind(count - left)]
            due += [[-2], [0, 1, 0, kept, 0], look_behind(count)]
            with self.subTest(count=count):
                self.assertLessEqual(len(calls), 999)
                self.assertEqual(told(calls)[count + kept:], due)

    def test_back_and_again_over_and_over(self):
        calls = changes(31) + ([BACK] * 31 + [AGAIN] * 31) * 10
        due = ([[left] for left in reversed(range(30))] + [[-2]]) * 20
        self.assertEqual(told(calls)[31:], due)
        self.assertEqual(told(calls + [STATE, look(0)])[-2:], [[0, 1, 0, 30, 0], look_behind(31)])

    def test_a_change_behind_some_that_were_taken_back(self):
        calls = changes(29) + [BACK, leave(0), STATE] + [BACK] * 29 + [BACK]
        self.assertEqual(told(calls)[29:], [[28], [0], [0, 1, 1, 29, 0]] + [[left] for left in reversed(range(29))] + [[-2]])
        calls = changes(30) + [BACK] * 30 + [party(2), STATE, BACK, BACK, STATE]
        self.assertEqual(told(calls)[60:], [[0], [0, 1, 0, 1, 0], [0], [-2], [0, 0, 0, 0, 1]])

    def test_what_can_no_longer_be_taken_back_stays_so(self):
        calls = changes(31) + [BACK] * 5 + [leave(0), STATE] + [BACK] * 26 + [BACK, look(0)]
        due = [[0], [0, 1, 1, 26, 0]] + [[left] for left in reversed(range(26))] + [[-2], look_behind(1)]
        self.assertEqual(told(calls)[36:], due)

    def test_full_once_more_behind_some_that_were_taken_back(self):
        calls = changes(40) + [BACK] * 2 + [party(), party(), STATE, party(), STATE, BACK, STATE]
        self.assertEqual(told(calls)[42:], [[1], [2], [0, 3, 0, 30, 0], [3], [0, 4, 0, 30, 0], [29], [0, 3, 0, 29, 1]])

    def test_questions_and_refused_calls_between_take_no_place(self):
        refused = [cabin(0, 0, 4), party(0), give(0, 0), leave(1), shut(0, 1), move(0, 0), swap(0, 0), pay(0, 4)]
        for count in (29, 30):
            calls = changes(15) + (QUESTIONS + refused) * 4 + changes(count)[15:] + [STATE] + [BACK] * (count + 1)
            found = told(calls)
            self.assertTrue(all(answer[0] < 0 for call, answer in zip(calls, found) if call in refused))
            due = [[0, 1, 0, count, 0]] + [[left] for left in reversed(range(count))] + [[-2]]
            self.assertEqual(found[-len(due):], due)

    def test_all_that_was_there_is_there_again(self):
        calls = [cabin(0, k, k % 4) for k in range(12)] + [party(1, p % 4) for p in range(8)] + [TAKE]
        calls += [leave(p) for p in range(8)] + [shut(0, 1)]
        self.assertEqual(len(calls), 30)
        self.assertEqual(seen(calls + [BACK] * 30), ([0, 30], seen([])[1]))
        self.assertEqual(seen(calls + [BACK] * 30 + [AGAIN] * 30), seen(calls))
        self.assertEqual(seen(calls + [BACK] * 9), ([21, 9], seen(calls[:21])[1]))
        self.assertEqual(seen([cabin(20, 0)] + calls[1:] + [shut(0, 0)] + [BACK] * 30), ([0, 30], seen([cabin(20, 0)])[1]))


class State(unittest.TestCase):
    def test_cabins_parties_gone_back_again(self):
        calls = [cabin(0, 0), cabin(0, 1), party(), party(), party(), leave(0), leave(2), shut(0, 1), BACK, STATE]
        self.assertEqual(last(calls), [2, 3, 2, 7, 1])

    def test_one_that_is_gone_is_among_those_there_have_been(self):
        calls = [party(), STATE, leave(0), STATE, party(), STATE]
        self.assertEqual(told(calls)[1::2], [[0, 1, 0, 1, 0], [0, 1, 1, 2, 0], [0, 2, 1, 3, 0]])

    def test_a_full_ship(self):
        calls = [cabin(0, k) for k in range(12)] + [party() for p in range(8)] + [leave(p) for p in range(8)] + [BACK]
        self.assertEqual(told(calls + [STATE, AGAIN, STATE])[-3:], [[12, 8, 7, 27, 1], [0], [12, 8, 8, 28, 0]])

    def test_the_most_there_can_be(self):
        calls = [cabin(0, k) for k in range(12)] + [party() for p in range(8)] + [TAKE]
        calls += [shut(11, time % 2) for time in range(1, 40)] + [STATE] + [BACK] * 30
        self.assertEqual(told(calls + [STATE])[60], [12, 8, 0, 30, 0])
        self.assertEqual(last(calls + [STATE]), [12, 8, 0, 0, 30])
