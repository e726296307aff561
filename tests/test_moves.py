"""Points 3 and 4: cg_shut, cg_move, cg_swap, cg_take, cg_pay."""

import unittest

from tests.helper import LARGEST, MOST, PLAN, TAKE
from tests.helper import cabin, check_refused, does, give, last, leave, move, party, pay, shut, swap, told


class Shut(unittest.TestCase):
    def test_how_many_are_free_those_out_of_order_too(self):
        calls = [cabin(0, 0), cabin(0, 1), cabin(0, 2), party(), give(0, 1)]
        found = told(calls + [shut(0, 1), shut(2, 1), shut(0, 0), leave(0), shut(1, 1)])
        self.assertEqual(found[-5:], [[2], [2], [2], [2], [3]])

    def test_out_of_order_it_is_free_and_does_for_nobody(self):
        calls = [cabin(0, 0), party(), shut(0, 1), does(0, 0), MOST, PLAN, shut(0, 0), does(0, 0), MOST]
        self.assertEqual(told(calls)[2:], [[1], [0, 1], [0, 1, 1], [0] * 9, [1], [1, 1], [1, 1, 1]])

    def test_out_is_above_one(self):
        for out in (2, 3, LARGEST):
            for calls in ([cabin(0, 0), party()], [cabin(0, 0), party(), shut(0, 1)]):
                with self.subTest(out=out, calls=calls):
                    check_refused(self, calls, shut(0, out), -22)

    def test_out_above_one_is_told_before_that_it_is_not_free(self):
        check_refused(self, [cabin(0, 0), party(), give(0, 0)], shut(0, 2), -22)

    def test_it_is_so(self):
        check_refused(self, [cabin(0, 0), party()], shut(0, 0), -17)
        check_refused(self, [cabin(0, 0), party(), shut(0, 1)], shut(0, 1), -17)
        check_refused(self, [cabin(0, 0), party(), give(0, 0)], shut(0, 0), -17)

    def test_it_is_not_free(self):
        check_refused(self, [cabin(0, 0), cabin(0, 1), party(), give(0, 0)], shut(0, 1), -16)

    def test_only_that_cabin(self):
        calls = [cabin(0, 0), cabin(0, 1), party(), shut(1, 1), does(0, 0), does(0, 1)]
        self.assertEqual(told(calls)[-2:], [[1, 1], [0, 1]])


class Move(unittest.TestCase):
    def test_which_they_had(self):
        calls = [cabin(0, 0), cabin(0, 1), cabin(0, 2), party(), give(0, 2), move(0, 0), move(0, 1), leave(0)]
        self.assertEqual(told(calls)[5:], [[2], [0], [2]])

    def test_the_old_one_is_free_the_new_one_is_not(self):
        calls = [cabin(0, 0), cabin(0, 1), party(), party(), give(0, 0), move(0, 1), does(1, 0), does(1, 1), MOST]
        self.assertEqual(told(calls)[-3:], [[1, 1], [1, 0], [1, 1, 1]])

    def test_the_party_has_none(self):
        check_refused(self, [cabin(0, 0), party()], move(0, 0), -6)

    def test_it_has_none_is_told_before_the_others(self):
        calls = [cabin(0, 0), cabin(0, 1, 0, 1), party(), give(0, 0), party(2)]
        check_refused(self, calls, move(1, 0), -6)
        check_refused(self, calls, move(1, 1), -6)

    def test_the_cabin_is_not_free(self):
        calls = [cabin(0, 0), cabin(0, 1), party(), party(), give(0, 0), give(1, 1)]
        check_refused(self, calls, move(0, 1), -16)

    def test_their_own_cabin_is_not_free(self):
        check_refused(self, [cabin(0, 0), party(), give(0, 0)], move(0, 0), -16)

    def test_not_free_is_told_before_that_it_does_not_do(self):
        calls = [cabin(0, 0), cabin(0, 1, 0, 1), party(2), party(), give(0, 0), give(1, 1)]
        check_refused(self, calls, move(0, 1), -16)

    def test_it_does_not_do(self):
        for other in (cabin(0, 1, 1, 2, 1), cabin(0, 1, 0, 3, 1), cabin(0, 1, 1, 3, 0)):
            with self.subTest(other=other):
                check_refused(self, [cabin(0, 0, 1, 3, 1), other, party(3, 1, 1), give(0, 0)], move(0, 1), -33)

    def test_one_out_of_order_does_not_do(self):
        check_refused(self, [cabin(0, 0), cabin(0, 1), party(), give(0, 0), shut(1, 1)], move(0, 1), -33)


class Swap(unittest.TestCase):
    def setUp(self):
        self.calls = [cabin(0, 0), cabin(0, 1), party(), party(), give(0, 0), give(1, 1)]

    def test_each_has_the_others(self):
        self.assertEqual(told(self.calls + [swap(0, 1), leave(0), leave(1)])[-3:], [[0], [2], [1]])
        self.assertEqual(told(self.calls + [swap(1, 0), leave(0), leave(1)])[-3:], [[0], [2], [1]])

    def test_twice_is_as_before(self):
        found = told(self.calls + [swap(0, 1), swap(0, 1), leave(0), leave(1)])
        self.assertEqual(found[-4:], [[0], [0], [1], [2]])

    def test_one_with_itself(self):
        check_refused(self, self.calls, swap(0, 0), -22)

    def test_one_with_itself_is_told_before_that_it_has_none(self):
        check_refused(self, self.calls + [party()], swap(2, 2), -22)

    def test_one_has_none(self):
        check_refused(self, self.calls + [party()], swap(0, 2), -6)
        check_refused(self, self.calls + [party()], swap(2, 0), -6)
        check_refused(self, self.calls + [party(), party()], swap(2, 3), -6)

    def test_one_has_none_is_told_before_that_it_does_not_do(self):
        calls = [cabin(0, 0, 0, 1), party(), party(2), give(0, 0)]
        check_refused(self, calls, swap(0, 1), -6)
        check_refused(self, calls, swap(1, 0), -6)

    def test_the_others_does_not_do_for_one(self):
        for small, who in ((cabin(0, 0, 2, 1, 1), party(2, 0, 0)), (cabin(0, 0, 1, 6, 1), party(1, 2, 0)),
                           (cabin(0, 0, 2, 6, 0), party(1, 0, 1))):
            calls = [small, cabin(0, 1, 3, 6, 1), party(), who, give(0, 0), give(1, 1)]
            with self.subTest(small=small, who=who):
                check_refused(self, calls, swap(0, 1), -33)
                check_refused(self, calls, swap(1, 0), -33)


class Take(unittest.TestCase):
    def test_nobody_waits(self):
        check_refused(self, [], TAKE, -6)
        check_refused(self, [cabin(0, 0)], TAKE, -6)
        check_refused(self, [cabin(0, 0), cabin(0, 1), party(), party(), give(0, 0), leave(1)], TAKE, -6)

    def test_nobody_waits_behind_a_take_of_all(self):
        check_refused(self, [cabin(0, 0), party(), TAKE], TAKE, -6)

    def test_all_get_the_plans_cabins(self):
        calls = [cabin(0, 0, 3), cabin(0, 1, 0), cabin(0, 2, 1), party(), party(1, 1), party(1, 3), PLAN, TAKE]
        found = told(calls + [leave(0), leave(1), leave(2)])
        self.assertEqual(found[6:], [[3, 2, 3, 1, 0, 0, 0, 0, 0], [3], [2], [3], [1]])

    def test_those_who_have_one_keep_it_and_those_gone_get_none(self):
        calls = [cabin(0, 0), cabin(0, 1), cabin(0, 2), party(), party(), party(), give(2, 0), leave(0), TAKE]
        self.assertEqual(told(calls + [leave(2), leave(1), leave(0)])[-4:], [[1], [1], [2], [-2]])

    def test_nobody_who_waits_can_be_housed(self):
        for calls in ([party()], [party(2), cabin(0, 0, 0, 1)], [party(), cabin(0, 0), shut(0, 1)]):
            with self.subTest(calls=calls):
                self.assertEqual(told(calls + [TAKE, TAKE])[-2:], [[0], [0]])

    def test_some_still_wait(self):
        calls = [cabin(0, 0), party(), party(), TAKE, MOST, TAKE, leave(0), TAKE, leave(1)]
        self.assertEqual(told(calls)[3:], [[1], [0, 1, 0], [0], [1], [1], [1]])


class Pay(unittest.TestCase):
    def test_what_it_was(self):
        self.assertEqual(told([party(1, 2), pay(0, 3), pay(0, 0), pay(0, 1)])[1:], [[2], [3], [0]])

    def test_that_is_what_they_paid_for(self):
        calls = [cabin(0, 0, 1), party(), does(0, 0), pay(0, 1), does(0, 0), pay(0, 2), does(0, 0), pay(0, 0), give(0, 0)]
        self.assertEqual(told(calls)[2:], [[1, 1], [0], [1, 1], [1], [0, 1], [2], [1]])

    def test_rank_is_above_three_or_what_they_paid_for(self):
        for rank in (2, 4, 5, LARGEST):
            with self.subTest(rank=rank):
                check_refused(self, [cabin(0, 0, 2), party(1, 2)], pay(0, rank), -22)
                check_refused(self, [cabin(0, 0, 2), party(1, 2), give(0, 0)], pay(0, rank), -22)

    def test_what_they_paid_for_last(self):
        check_refused(self, [party(1, 2), pay(0, 1)], pay(0, 1), -22)

    def test_they_have_a_cabin_of_a_lesser_class(self):
        check_refused(self, [cabin(0, 0, 1), party(), give(0, 0)], pay(0, 2), -33)
        check_refused(self, [cabin(0, 0, 1), party(), give(0, 0)], pay(0, 3), -33)

    def test_up_to_the_class_they_have(self):
        calls = [cabin(0, 0, 2), party(), give(0, 0), pay(0, 1), pay(0, 2), pay(0, 0)]
        self.assertEqual(told(calls)[3:], [[0], [1], [2]])

    def test_who_waits_may_pay_for_a_class_there_is_not(self):
        self.assertEqual(last([cabin(0, 0, 1), party(), pay(0, 3)]), [0])

    def test_it_counts_which_cabin_they_have_now(self):
        calls = [cabin(0, 0, 3), cabin(0, 1, 1), party(), give(0, 0), move(0, 1)]
        check_refused(self, calls, pay(0, 2), -33)
