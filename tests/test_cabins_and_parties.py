"""Point 2: cg_cabin, cg_party, cg_give, cg_leave."""

import unittest

from tests.helper import LARGEST, MOST, TAKE
from tests.helper import cabin, check_refused, does, give, last, leave, party, shut, told

TWELVE = [cabin(k // 4, k % 4 + 10) for k in range(12)]
EIGHT = [party() for p in range(8)]


class Cabins(unittest.TestCase):
    def test_each_gets_the_next_number(self):
        self.assertEqual(told(TWELVE), [[k] for k in range(12)])

    def test_the_least_and_the_greatest_that_may_be(self):
        self.assertEqual(told([cabin(0, 0, 0, 1, 0), cabin(20, 500, 3, 6, 1)]), [[0], [1]])

    def test_something_is_not_as_told(self):
        for call in (cabin(21, 0), cabin(LARGEST, 0), cabin(0, 501), cabin(0, LARGEST), cabin(0, 0, rank=4),
                     cabin(0, 0, rank=LARGEST), cabin(0, 0, berths=0), cabin(0, 0, berths=7),
                     cabin(0, 0, berths=LARGEST), cabin(0, 0, flat=2), cabin(0, 0, flat=LARGEST)):
            with self.subTest(call=call):
                check_refused(self, [cabin(5, 5), party()], call, -22)

    def test_each_edge_by_itself(self):
        for call in (cabin(20, 0), cabin(0, 500), cabin(0, 0, rank=3), cabin(0, 0, berths=1), cabin(0, 0, berths=6),
                     cabin(0, 0, flat=0), cabin(0, 0, flat=1)):
            with self.subTest(call=call):
                self.assertEqual(last([call]), [0])

    def test_no_place_twice_on_one_deck(self):
        check_refused(self, [cabin(3, 7, 1, 2, 0)], cabin(3, 7, 2, 4, 1), -22)
        check_refused(self, [cabin(3, 8), cabin(3, 7), cabin(3, 9)], cabin(3, 7), -22)

    def test_the_same_place_on_another_deck_and_another_place_on_the_same(self):
        self.assertEqual(told([cabin(3, 7), cabin(4, 7), cabin(3, 8), cabin(7, 3)]), [[0], [1], [2], [3]])
        self.assertEqual(told([cabin(3, 7), cabin(2, 7), cabin(3, 6), cabin(0, 0)]), [[0], [1], [2], [3]])

    def test_a_place_stays_taken_by_a_cabin_out_of_order(self):
        check_refused(self, [cabin(3, 7), shut(0, 1)], cabin(3, 7), -22)

    def test_the_thirteenth(self):
        check_refused(self, TWELVE, cabin(20, 500), -28)

    def test_the_thirteenth_not_as_told(self):
        for call in (cabin(21, 0), cabin(20, 501), cabin(20, 0, rank=4), cabin(20, 0, berths=0),
                     cabin(20, 0, berths=7), cabin(20, 0, flat=2), cabin(0, 10)):
            with self.subTest(call=call):
                check_refused(self, TWELVE, call, -22)

    def test_a_new_cabin_is_free_and_not_out_of_order(self):
        self.assertEqual(told([party(), cabin(0, 0), does(0, 0), MOST, shut(0, 0)])[2:], [[1, 1], [1, 1, 1], [-17]])


class Parties(unittest.TestCase):
    def test_each_gets_the_next_number(self):
        self.assertEqual(told(EIGHT), [[p] for p in range(8)])

    def test_each_edge_by_itself(self):
        for call in (party(1, 0, 0), party(6, 3, 1), party(6, 0, 0), party(1, 3, 0), party(1, 0, 1)):
            with self.subTest(call=call):
                self.assertEqual(last([call]), [0])

    def test_something_is_not_as_told(self):
        for call in (party(0), party(7), party(LARGEST), party(1, 4), party(1, LARGEST), party(1, 0, 2),
                     party(1, 0, LARGEST), party(0, 4, 2)):
            with self.subTest(call=call):
                check_refused(self, [cabin(0, 0), party()], call, -22)

    def test_the_ninth(self):
        check_refused(self, EIGHT, party(6, 3, 1), -28)

    def test_the_ninth_not_as_told(self):
        for call in (party(0), party(7), party(1, 4), party(1, 0, 2)):
            with self.subTest(call=call):
                check_refused(self, EIGHT, call, -22)

    def test_one_that_is_gone_counts_among_those_there_have_been(self):
        check_refused(self, EIGHT + [leave(0), leave(7)], party(), -28)
        self.assertEqual(told([party(), leave(0), party()]), [[0], [0], [1]])
        calls = EIGHT[:7] + [leave(3), party(), party()]
        self.assertEqual(told(calls)[-3:], [[0], [7], [-28]])

    def test_a_new_party_waits(self):
        self.assertEqual(last([party(), party(), MOST]), [0, 2, 0])


class Give(unittest.TestCase):
    def test_a_better_class_or_just_the_one_paid_for(self):
        calls = [cabin(0, 0, 1), cabin(0, 1, 2), cabin(0, 2, 3), party(1, 1), party(1, 1), party(1, 1)]
        self.assertEqual(told(calls + [give(2, 0), give(1, 1), give(0, 2)])[-3:], [[0], [1], [1]])

    def test_they_have_it_then(self):
        calls = [cabin(0, 0), cabin(0, 1), party(), party(), give(1, 0)]
        found = told(calls + [MOST, does(0, 0), does(0, 1), leave(1)])
        self.assertEqual(found[-4:], [[1, 1, 1], [1, 0], [1, 1], [1]])

    def test_the_party_has_one(self):
        check_refused(self, [cabin(0, 0), cabin(0, 1), party(), give(0, 0)], give(0, 1), -17)
        check_refused(self, [cabin(0, 0), cabin(0, 1), party(), give(0, 0)], give(0, 0), -17)

    def test_the_party_has_one_is_told_before_the_others(self):
        calls = [cabin(0, 0), cabin(0, 1), cabin(0, 2, 0, 1), cabin(0, 3), party(2), party(), give(0, 0), give(1, 1)]
        calls += [shut(3, 1)]
        check_refused(self, calls, give(0, 1), -17)
        check_refused(self, calls, give(0, 2), -17)
        check_refused(self, calls, give(0, 3), -17)

    def test_the_cabin_is_not_free(self):
        check_refused(self, [cabin(0, 0), party(), party(), give(0, 0)], give(1, 0), -16)

    def test_the_cabin_is_not_free_is_told_before_that_it_does_not_do(self):
        check_refused(self, [cabin(0, 0, 0, 1), party(), party(2), give(0, 0)], give(1, 0), -16)

    def test_it_does_not_do(self):
        for cabins, who in ((cabin(0, 0, berths=2), party(3)), (cabin(0, 0, rank=1), party(1, 2)),
                            (cabin(0, 0, flat=0), party(1, 0, 1))):
            with self.subTest(cabin=cabins, party=who):
                check_refused(self, [cabins, who], give(0, 0), -33)

    def test_one_out_of_order_is_free_and_does_not_do(self):
        check_refused(self, [cabin(0, 0), party(), shut(0, 1)], give(0, 0), -33)

    def test_a_cabin_that_was_left_can_be_given_again(self):
        calls = [cabin(0, 0, 1), party(), party(), give(0, 0), leave(0), give(1, 0)]
        self.assertEqual(told(calls)[-2:], [[1], [1]])


class Leave(unittest.TestCase):
    def test_the_cabins_number_and_one(self):
        calls = [cabin(0, k) for k in range(12)] + [party(), party(), party(), give(0, 0), give(1, 11)]
        self.assertEqual(told(calls + [leave(0), leave(1), leave(2)])[-3:], [[1], [12], [0]])

    def test_its_cabin_is_free_and_it_does_not_wait(self):
        calls = [cabin(0, 0), party(), party(), party(), give(0, 0), MOST, leave(0), MOST, leave(1), MOST]
        self.assertEqual(told(calls)[5:], [[0, 2, 0], [1], [1, 2, 1], [0], [1, 1, 1]])

    def test_one_that_is_gone_is_gone(self):
        check_refused(self, [cabin(0, 0), party(), give(0, 0), leave(0)], leave(0), -2)
        self.assertEqual(last([cabin(0, 0), party(), leave(0), TAKE]), [-6])
